import inspect
import itertools
import unittest

from spinboard import images as images_module
from spinboard.amounts import spun
from spinboard.boards import laid_on, start
from spinboard.errors import NotBorne
from spinboard.images import images, unlike
from spinboard.layers import rebuilt
from spinboard.marks import is_even, is_mark, product, read_mark
from spinboard.rows import backward, run
from spinboard.shorts import shortened
from spinboard.tableturns import moved_mark
from tests.helper import OwnCase, borne_moves, borne_row, some_board

NOT_BORNE = [("turn", 0, 1), ("turn", 0, 3), ("turn", 0, 5), ("turn", 0, 7), ("cross", 0, 1, 2), ("cross", 2, 0, 1)]
# This makes of every board the same board, spun by 1.
SPINS_BY_ONE = [("turn", 0, 2), ("mix", 0)] * 3


def ahead_by_words(cells):
    """The 2 n marks, by their texts."""
    texts = ["+" + "." * cell + letter + "." * (cells - cell - 1) for cell in range(cells) for letter in "fs"]
    return [read_mark(text)[0] for text in texts]


def spun_board(board, k):
    return [spun(one, k) for one in board]


def boards_of(cells):
    beginnings = [start(cells, word) for word in range(2 ** cells)]
    return beginnings[:4] + beginnings[-1:] + [some_board(cells, 1), some_board(cells, 2)]


def spins_between(row, other, boards):
    """Each k from 0 to 7 with which, of all these boards, the row makes what the other one makes, spun by k."""
    made = [(run(board, row), run(board, other)) for board in boards]
    return [k for k in range(8) if all(one == spun_board(another, k) for one, another in made)]


class Interface(unittest.TestCase):
    def test_names_and_arguments(self):
        asked = {"images": "(row, cells)", "unlike": "(row, other, cells)"}
        for name, arguments in asked.items():
            self.assertEqual(str(inspect.signature(getattr(images_module, name))), arguments, name)


class NotBorneCase(OwnCase):
    def assert_not_borne(self, place, ask, *handed):
        with self.assertRaises(NotBorne) as caught:
            ask(*handed)
        self.assertEqual(caught.exception.place, place)


class Images(NotBorneCase):
    def test_the_row_without_moves(self):
        self.assertEqual(images([], 1), [(0, 1, 0), (0, 0, 1)])
        self.assertEqual(images([], 2), [(0, 1, 0), (0, 0, 1), (0, 2, 0), (0, 0, 2)])
        for cells in range(1, 7):
            self.assertEqual(images([], cells), ahead_by_words(cells))

    def test_told_ones(self):
        asked = [
            ([("flip", 0)], "+f. -s. +.f +.s"), ([("mix", 0)], "+s. +f. +.f +.s"),
            ([("turn", 0, 2)], "+b. +s. +.f +.s"), ([("turn", 0, 4)], "-f. +s. +.f +.s"),
            ([("turn", 1, 6)], "+f. +s. -.b +.s"),
            ([("if", 0, 1)], "+ff +s. +.f +ss"), ([("if", 1, 0)], "+f. +ss +ff +.s"),
            ([("pair", 0, 1)], "+fs +s. +sf +.s"), ([("swap", 0, 1)], "+.f +.s +f. +s."),
            ([("mix", 0), ("if", 0, 1)], "+s. +ff +.f +ss"), ([("turn", 0, 2), ("mix", 0)], "-b. +f. +.f +.s"),
            (SPINS_BY_ONE, "+f. +s. +.f +.s"),
        ]
        for row, texts in asked:
            self.assertEqual(images(row, 2), [read_mark(text)[0] for text in texts.split()], row)

    def assert_images(self, row, cells):
        handed = list(row)
        told = images(row, cells)
        self.assertEqual(row, handed)
        self.assertIs(type(told), list)
        self.assertEqual(told, [moved_mark(mark, row) for mark in ahead_by_words(cells)])
        self.assertEqual(len(told), 2 * cells)
        self.assertTrue(all(is_mark(mark, cells) and is_even(mark) for mark in told))
        self.assertEqual(images(row, cells), told)
        return told

    def test_every_move_by_itself(self):
        for cells in range(1, 7):
            for move in borne_moves(cells):
                self.assert_images([move], cells)

    def test_rows_of_up_to_200_moves(self):
        for cells in range(1, 7):
            for many in [1, 2, 3, 10, 60, 199, 200]:
                self.assert_images(borne_row(cells, many, 3), cells)

    def test_they_do_behind_the_row_what_the_marks_do_ahead_of_it(self):
        for cells in range(1, 7):
            row = borne_row(cells, 25, "boards")
            board = some_board(cells, 2)
            behind = run(board, row)
            for mark, image in zip(ahead_by_words(cells), images(row, cells)):
                self.assertEqual(laid_on(behind, image), run(laid_on(board, mark), row))

    def test_cells_that_the_row_does_not_name_stay(self):
        for cells in range(2, 7):
            row = borne_row(cells - 1, 30, 4)
            told = images(row, cells)
            self.assertEqual(told[:-2], images(row, cells - 1))
            self.assertEqual(told[-2:], ahead_by_words(cells)[-2:])

    def test_not_borne(self):
        borne = borne_row(3, 12, "not borne")
        for move, place in itertools.product(NOT_BORNE, range(13)):
            row = borne[:place] + [move] + borne[place:]
            self.assert_not_borne(place, images, row, 3)
            self.assert_not_borne(place, images, row + [("cross", 0, 1, 2), ("turn", 0, 1)], 3)
        self.assert_not_borne(199, images, borne_row(1, 199, 1) + [("turn", 0, 1)], 1)
        self.assert_not_borne(0, images, [("turn", 0, 7)], 1)

    def test_the_list_belongs_to_the_asker(self):
        for row in [[], [("mix", 0)], borne_row(3, 40, "own")]:
            self.assert_own(images, row, 3)


class Unlike(NotBorneCase):
    def test_told_ones(self):
        asked = [
            ([], [], None), ([], [("flip", 0)], "+s."), ([], [("mix", 0)], "+f."), ([], [("turn", 0, 4)], "+f."),
            ([], [("flip", 1)], "+.s"), ([], [("turn", 1, 2)], "+.f"), ([("turn", 1, 2)], [("turn", 1, 6)], "+.f"),
            ([("if", 0, 1)], [], "+f."), ([("if", 1, 0)], [], "+s."), ([("pair", 0, 1)], [("pair", 1, 0)], None),
            ([("swap", 0, 1)], [("if", 0, 1), ("if", 1, 0), ("if", 0, 1)], None), ([], SPINS_BY_ONE, None),
            ([("mix", 1), ("if", 0, 1), ("mix", 1)], [("pair", 0, 1)], None),
            ([("turn", 0, 4), ("flip", 0)], [("flip", 0), ("turn", 0, 4)], None),
            ([("flip", 0), ("flip", 1)], [("flip", 0)], "+.s"), ([("if", 0, 1), ("flip", 0)], [("flip", 0)], "+f."),
        ]
        for row, other, text in asked:
            mark = None if text is None else read_mark(text)[0]
            self.assertEqual(unlike(row, other, 2), mark, (row, other))
            self.assertEqual(unlike(other, row, 2), mark, (row, other))

    def assert_unlike(self, row, other, cells):
        handed = list(row), list(other)
        told = unlike(row, other, cells)
        self.assertEqual((row, other), handed)
        asked = [mark for mark in ahead_by_words(cells) if moved_mark(mark, row) != moved_mark(mark, other)]
        self.assertEqual(told, asked[0] if asked else None)
        self.assertEqual(unlike(row, other, cells), told)
        return told

    def test_the_first_of_the_marks_ahead(self):
        for cells in range(1, 7):
            for seed in range(20):
                row = borne_row(cells, seed * 10, seed)
                self.assert_unlike(row, borne_row(cells, 5, seed), cells)
                self.assertIsNone(self.assert_unlike(row, list(row), cells))
                for move in borne_row(cells, 4, seed):
                    self.assertIsNotNone(self.assert_unlike(row, row + [move], cells))
                    self.assert_unlike([move] + row, row, cells)

    def test_each_of_the_marks_is_told(self):
        for cells in range(1, 7):
            row = borne_row(cells, 100, "each")
            for place, mark in enumerate(ahead_by_words(cells)):
                other = [("flip" if place % 2 else "turn", place // 2) + (() if place % 2 else (4,))]
                self.assertEqual(unlike(row, other + row, cells), mark)
                self.assertEqual(unlike(other + row, row, cells), mark)

    def test_marks_that_differ_by_the_sign_ahead_alone(self):
        self.assertEqual(unlike([("turn", 0, 2)], [("turn", 0, 6)], 1), (0, 1, 0))
        self.assertEqual(unlike([("mix", 0), ("turn", 0, 2)], [("mix", 0), ("turn", 0, 6)], 1), (0, 0, 1))

    def test_cells_that_no_row_names(self):
        for cells in range(1, 7):
            self.assertIsNone(unlike(SPINS_BY_ONE, [], cells))
            self.assertEqual(unlike([("mix", cells - 1)], [], cells), (0, 2 ** (cells - 1), 0))

    def test_not_borne_of_the_one_row_then_of_the_other(self):
        borne = borne_row(3, 9, "not borne")
        for move, other in itertools.product(NOT_BORNE, repeat=2):
            for place, another in itertools.product([0, 3, 9], [0, 4, 9]):
                row = borne[:place] + [move] + borne[place:]
                second = borne[:another] + [other] + borne[another:]
                self.assert_not_borne(place, unlike, row, second, 3)
                self.assert_not_borne(another, unlike, second, row, 3)
                self.assert_not_borne(place, unlike, row, borne, 3)
                self.assert_not_borne(place, unlike, borne, row, 3)
                self.assert_not_borne(place, unlike, row, row + second, 3)
                self.assert_not_borne(another, unlike, [("mix", 0)], second, 3)


class OneSpin(unittest.TestCase):
    def assert_one_spin(self, row, other, cells):
        self.assertIsNone(unlike(row, other, cells))
        found = spins_between(row, other, boards_of(cells))
        self.assertEqual(len(found), 1, (row, other))
        return found[0]

    def test_each_spin_from_0_to_7(self):
        for cells in range(1, 7):
            row = borne_row(cells, 10, "spins")
            for k in range(8):
                self.assertEqual(self.assert_one_spin(SPINS_BY_ONE * k + row, row, cells), k)
                self.assertEqual(self.assert_one_spin(row, row[:5] + SPINS_BY_ONE * k + row[5:], cells), (8 - k) % 8)

    def test_rows_made_otherwise(self):
        for cells in range(1, 7):
            for seed in range(3):
                row = borne_row(cells, 30, seed)
                self.assertEqual(self.assert_one_spin(row, shortened(row)[0], cells), 0)
                self.assertEqual(self.assert_one_spin(row + backward(row), [], cells), 0)
                self.assert_one_spin(row, rebuilt(images(row, cells), cells), cells)

    def test_every_two_rows_of_two_moves_of_one_cell(self):
        rows = [list(row) for row in itertools.product(borne_moves(1), repeat=2)]
        boards = boards_of(1)
        for row, other in itertools.product(rows, repeat=2):
            found = spins_between(row, other, boards)
            self.assertEqual(unlike(row, other, 1) is None, len(found) == 1, (row, other))

    def test_unlike_rows_are_parted_by_the_mark(self):
        for cells in range(1, 7):
            for seed in range(6):
                row, other = borne_row(cells, 7, seed), borne_row(cells, 8, seed)
                mark = unlike(row, other, cells)
                if mark is not None:
                    self.assertEqual(spins_between(row, other, boards_of(cells)), [])
                    # The marks moved there and back by the two rows differ from the mark ahead.
                    self.assertNotEqual(moved_mark(mark, row + backward(other)), mark)

    def test_like_rows_move_every_mark_to_the_same(self):
        for cells in range(1, 4):
            row = borne_row(cells, 40, "every")
            other = rebuilt(images(row, cells), cells)
            for one, another in itertools.product(ahead_by_words(cells), repeat=2):
                mark = product(one, another)
                self.assertEqual(moved_mark(mark, row), moved_mark(mark, other))


if __name__ == "__main__":
    unittest.main()
