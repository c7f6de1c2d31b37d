import inspect
import itertools
import random
import unittest

from spinboard import layers
from spinboard.amounts import spun
from spinboard.boards import laid_on, start
from spinboard.errors import NoTable
from spinboard.images import images, unlike
from spinboard.layers import laid, rebuilt
from spinboard.marks import commute, is_even, product, read_mark, turned_about
from spinboard.moves import check_move
from spinboard.rows import run
from spinboard.tableturns import borne, moved_mark
from tests.helper import (
    ANYTHING, NO_TABLES, NOT_WHOLE, OwnCase, all_marks, all_tables, borne_row, even_marks, is_empty_list,
    made_otherwise, some_board, some_marks, some_table,
)


def most_moves(cells):
    return 4 * cells * cells + 8 * cells


def are_images_by_words(marks, cells):
    """Of 2 n even marks just those two don't commute that stand at the flip and the sign of one cell."""
    if len(marks) != 2 * cells or not all(is_even(mark) for mark in marks):
        return False
    for i, j in itertools.combinations(range(2 * cells), 2):
        if commute(marks[i], marks[j]) == (i // 2 == j // 2):
            return False
    return True


def some_images(cells, seed):
    """Images that no row made: each mark is drawn until it commutes with those ahead as it should."""
    source = random.Random(f"images {cells} {seed}")
    told = []
    while len(told) < 2 * cells:
        mark = (source.randrange(4), source.randrange(2 ** cells), source.randrange(2 ** cells))
        place = len(told)
        asked = [other // 2 != place // 2 for other in range(place)]
        # With a mark without flips and signs every later one commutes, and one must not.
        if is_even(mark) and mark[1:] != (0, 0) and [commute(mark, other) for other in told] == asked:
            told.append(mark)
    return told


class Interface(unittest.TestCase):
    def test_names_and_arguments(self):
        for name, arguments in {"rebuilt": "(marks, cells)", "laid": "(rows, cells)"}.items():
            self.assertEqual(str(inspect.signature(getattr(layers, name))), arguments, name)


class RowCase(OwnCase):
    def assert_row(self, row, cells):
        self.assertIs(type(row), list)
        self.assertLessEqual(len(row), most_moves(cells))
        self.assertIsNone(borne(row))
        for move in row:
            self.assertEqual(check_move(move, cells), move)


class Rebuilt(RowCase):
    def assert_rebuilt(self, marks, cells):
        handed = list(marks)
        row = rebuilt(marks, cells)
        self.assertEqual(marks, handed)
        self.assert_row(row, cells)
        self.assertEqual(images(row, cells), handed)
        self.assertEqual(rebuilt(marks, cells), row)
        return row

    def test_images_of_the_row_without_moves(self):
        for cells in range(1, 7):
            self.assert_rebuilt(images([], cells), cells)

    def test_images_of_every_row_of_one_cell(self):
        found = [list(marks) for marks in itertools.product(even_marks(1), repeat=2) if not commute(*marks)]
        self.assertEqual(len(found), 24)
        for marks in found:
            self.assert_rebuilt(marks, 1)

    def test_every_choice_of_two_cells(self):
        many = 0
        for one, other in itertools.permutations(even_marks(2), 2):
            if one[0] > 1 or other[0] > 1 or commute(one, other):
                continue
            rest = [mark for mark in even_marks(2) if commute(mark, one) and commute(mark, other)]
            for third, last in itertools.permutations(rest, 2):
                if not commute(third, last):
                    self.assert_rebuilt([one, other, third, last], 2)
                    many += 1
        # 15 marks ahead, 8 of which don't commute with each, and the 24 images of the one cell that is left.
        self.assertEqual(many, 15 * 8 * 24)

    def test_images_of_rows_of_up_to_200_moves(self):
        for cells in range(1, 7):
            for many in [1, 2, 3, 5, 10, 30, 100, 200]:
                for seed in range(3):
                    self.assert_rebuilt(images(borne_row(cells, many, seed), cells), cells)

    def test_marks_that_were_drawn(self):
        for cells, seeds in [(1, 20), (2, 20), (3, 20), (4, 12), (5, 6), (6, 3)]:
            for seed in range(seeds):
                marks = some_images(cells, seed)
                self.assertTrue(are_images_by_words(marks, cells))
                self.assert_rebuilt(marks, cells)

    def test_every_sign_ahead(self):
        for cells in range(1, 4):
            marks = images(borne_row(cells, 50, "signs"), cells)
            for about in itertools.product([False, True], repeat=2 * cells):
                self.assert_rebuilt([turned_about(m) if turn else m for m, turn in zip(marks, about)], cells)
        for cells in range(4, 7):
            marks = images(borne_row(cells, 50, "signs"), cells)
            self.assert_rebuilt([turned_about(mark) for mark in marks], cells)
            for place in range(2 * cells):
                self.assert_rebuilt(marks[:place] + [turned_about(marks[place])] + marks[place + 1:], cells)

    def test_cells_in_another_order(self):
        for cells in range(1, 7):
            plain = images([], cells)
            orders = list(itertools.permutations(range(cells)))
            for order in orders[:120] + orders[-5:]:
                pairs = [plain[2 * cell:2 * cell + 2] for cell in order]
                self.assert_rebuilt([mark for pair in pairs for mark in pair], cells)
                self.assert_rebuilt([mark for pair in pairs for mark in reversed(pair)], cells)

    def test_one_spin_between_the_rows(self):
        for cells in range(1, 7):
            row = borne_row(cells, 60, "spin")
            other = rebuilt(images(row, cells), cells)
            self.assertIsNone(unlike(row, other, cells))
            boards = [some_board(cells, 2), some_board(cells, 1), start(cells), start(cells, 2 ** cells - 1)]
            made = [(run(board, row), run(board, other)) for board in boards]
            spins = [k for k in range(8) if all(one == [spun(x, k) for x in two] for one, two in made)]
            self.assertEqual(len(spins), 1)

    def test_the_list_belongs_to_the_asker(self):
        for cells in range(1, 7):
            self.assert_own(rebuilt, images([], cells), cells)
            self.assert_own(rebuilt, images(borne_row(cells, 40, "own"), cells), cells)


class RebuiltRefuses(unittest.TestCase):
    def assert_refused(self, marks, cells):
        handed = list(marks)
        with self.assertRaises(NoTable):
            rebuilt(marks, cells)
        self.assertEqual(marks, handed)

    def test_every_list_of_up_to_three_marks_of_one_cell(self):
        many = 0
        for length in range(4):
            for marks in itertools.product(all_marks(1), repeat=length):
                if are_images_by_words(marks, 1):
                    self.assertEqual(images(rebuilt(list(marks), 1), 1), list(marks))
                    many += 1
                else:
                    self.assert_refused(list(marks), 1)
        self.assertEqual(many, 24)

    def test_told_ones(self):
        texts = [
            # The same twice, nothing at all, marks in another order.
            "+f. +f. +.f +.s", "+f. +s. +f. +s.", "+.. +s. +.f +.s", "+f. -.. +.f +.s", "+f. +.f +s. +.s",
            "+f. +.s +.f +s.", "+f. +s. +.f +.f", "+f. +s. +.f +..", "+f. +s. +.. +.s", "+f. +s. +.s +.s",
            # Marks that commute where they shouldn't, and that don't where they should.
            "+ff +ss +.f +.s", "+f. +s. +ff +.s", "+f. +s. +.f +ss", "+f. +s. +bf +.s", "+f. +s. +.f +sb",
            "+ff +s. +.f +.s", "+f. +s. +.f -fs", "+f. +bs +.f +.s", "+sf +s. +.f +.s", "+fb -sb +.f +.s",
        ]
        for text in texts:
            marks = [read_mark(each)[0] for each in text.split()]
            self.assertFalse(are_images_by_words(marks, 2), text)
            self.assert_refused(marks, 2)

    def test_too_few_and_too_many(self):
        for cells in range(1, 7):
            marks = images(borne_row(cells, 30, "few"), cells)
            for length in range(2 * cells):
                self.assert_refused(marks[:length], cells)
                self.assert_refused(marks[1:][:length], cells)
            for more in [(0, 0, 0), (2, 0, 0), (0, 0, 1), marks[0], turned_about(marks[-1])]:
                self.assert_refused(marks + [more], cells)
                self.assert_refused([more] + marks, cells)
            if cells > 1:
                self.assert_refused(images([], cells - 1), cells)

    def test_marks_that_are_not_even(self):
        for cells in range(1, 7):
            marks = images(borne_row(cells, 30, "even"), cells)
            for place, more in itertools.product(range(2 * cells), [1, 3]):
                q, flips, signs = marks[place]
                odd = ((q + more) % 4, flips, signs)
                self.assert_refused(marks[:place] + [odd] + marks[place + 1:], cells)

    def test_each_mark_changed_by_each_other(self):
        for cells in range(2, 7):
            marks = images(borne_row(cells, 30, "changed"), cells)
            for i, j in itertools.permutations(range(2 * cells), 2):
                if i // 2 == j // 2:
                    continue
                # The mark that stood beside the other one does not commute with this one any more.
                self.assert_refused(marks[:i] + [product(marks[i], marks[j])] + marks[i + 1:], cells)
                self.assert_refused(marks[:i] + [marks[j]] + marks[i + 1:], cells)
            for place in range(2 * cells):
                self.assert_refused(marks[:place] + [(0, 0, 0)] + marks[place + 1:], cells)

    def test_two_marks_that_changed_places(self):
        for cells in range(2, 7):
            marks = images(borne_row(cells, 30, "places"), cells)
            for i, j in itertools.combinations(range(2 * cells), 2):
                changed = list(marks)
                changed[i], changed[j] = marks[j], marks[i]
                if i // 2 == j // 2:
                    self.assertEqual(images(rebuilt(changed, cells), cells), changed)
                else:
                    self.assert_refused(changed, cells)

    def test_any_marks(self):
        for cells in range(1, 7):
            for seed in range(40):
                marks = some_marks(cells, 2 * cells, seed)
                if not are_images_by_words(marks, cells):
                    self.assert_refused(marks, cells)

    def test_what_is_no_list_of_marks(self):
        for thing in ANYTHING + [((0, 1, 0), (0, 0, 1)), {(0, 1, 0): 1, (0, 0, 1): 1}]:
            with self.assertRaises(NoTable):
                rebuilt(thing, 1)
            for marks in [[(0, 1, 0), thing], [thing, (0, 0, 1)]]:
                with self.assertRaises(NoTable):
                    rebuilt(marks, 1)
        for thing in NOT_WHOLE:
            for mark in [(thing, 0, 1), (0, thing, 1), (0, 0, thing)]:
                with self.assertRaises(NoTable):
                    rebuilt([(0, 1, 0), mark], 1)

    def test_marks_of_more_cells(self):
        for cells in range(1, 6):
            self.assert_refused(images([("swap", 0, cells)], cells + 1)[:2 * cells], cells)
            self.assert_refused(images([("if", 0, cells)], cells + 1)[:2 * cells], cells)


class Laid(RowCase):
    def assert_laid(self, rows, cells):
        handed = list(rows)
        row = laid(rows, cells)
        self.assertEqual(rows, handed)
        self.assert_row(row, cells)
        for place, mark in enumerate(rows):
            self.assertEqual(moved_mark((0, 0, 2 ** place), row), mark, rows)
        self.assertEqual(laid(rows, cells), row)
        return row

    def test_tables_without_rows(self):
        for cells in range(1, 7):
            self.assert_laid([], cells)

    def test_told_ones(self):
        texts = [
            "+s", "-s", "+f", "-f", "+b", "-b", "+ff +ss", "+ss +ff", "-bb +ss", "+.s", "+.f", "-.b", "+ss. +.ss",
            "+.s. +s.s +s..", "-sss +s.. -.s.", "+ffff +ssss", "+fssf. +.fssf +f.fss +sf.fs", "-.....b",
        ]
        for text in texts:
            told = [read_mark(each) for each in text.split()]
            self.assert_laid([mark for mark, cells in told], told[0][1])

    def test_every_table_of_one_and_two_cells(self):
        for cells in (1, 2):
            for rows in all_tables(cells):
                self.assert_laid(rows, cells)

    def test_tables_of_three_to_six_cells(self):
        for cells in range(3, 7):
            for many in range(cells + 1):
                for seed in range(8):
                    rows = some_table(cells, many, seed)
                    self.assert_laid(rows, cells)
                    self.assert_laid(made_otherwise(rows, seed), cells)

    def test_tables_of_signs_alone_and_of_flips_alone(self):
        for cells in range(1, 7):
            for many in range(1, cells + 1):
                words = [2 ** cell for cell in range(cells)][::-1][:many]
                summed = [sum(words[:place + 1]) for place in range(many)]
                for some in (words, words[::-1], summed, summed[::-1]):
                    for q in (0, 2):
                        self.assert_laid([(q, 0, word) for word in some], cells)
                        self.assert_laid([(q, word, 0) for word in some], cells)

    def test_tables_moved_by_long_rows(self):
        for cells in range(1, 7):
            for many in range(1, cells + 1):
                row = borne_row(cells, 200, many)
                self.assert_laid([moved_mark((2 * (place % 2), 0, 2 ** place), row) for place in range(many)], cells)

    def test_each_row_leaves_the_board_as_it_is(self):
        for cells in range(1, 7):
            for many in range(cells + 1):
                rows = some_table(cells, many, "leaves")
                row = laid(rows, cells)
                for word in range(0, 2 ** cells, 2 ** many):
                    board = run(start(cells, word), row)
                    for mark in rows:
                        self.assertEqual(laid_on(board, mark), board)

    def test_the_list_belongs_to_the_asker(self):
        for cells in range(1, 7):
            self.assert_own(laid, [], cells)
            self.assert_own(laid, some_table(cells, cells, "own"), cells)

    def assert_refused(self, rows, cells):
        with self.assertRaises(NoTable):
            laid(rows, cells)

    def test_no_table(self):
        for rows in NO_TABLES:
            self.assert_refused(rows, 3)

    def test_no_table_of_anything(self):
        for thing in ANYTHING:
            if not is_empty_list(thing):
                for cells in (1, 3, 6):
                    self.assert_refused(thing, cells)
            for cells in (1, 3, 6):
                self.assert_refused([thing], cells)
                self.assert_refused([(0, 0, 1), thing], cells)
        for thing in NOT_WHOLE:
            for mark in [(thing, 0, 1), (0, thing, 1), (0, 1, thing)]:
                self.assert_refused([mark], 2)
                self.assert_refused([(0, 0, 2), mark], 2)

    def test_tables_of_more_cells(self):
        for cells in range(1, 6):
            self.assert_refused([(0, 0, 2 ** cells)], cells)
            self.assert_refused([(0, 2 ** cells, 0)], cells)
            self.assert_refused(some_table(cells + 1, cells + 1, "more"), cells)

    def test_lists_of_twelve_marks(self):
        for cells in range(1, 7):
            self.assert_refused([(0, 0, 1)] * 12, cells)
            self.assert_refused(images([], 6), cells)


if __name__ == "__main__":
    unittest.main()
