import copy
import inspect
import itertools
import random
import unittest

from spinboard import tableturns
from spinboard.boards import laid_on, parted, start
from spinboard.errors import NeverSo, NotBorne
from spinboard.looks import looked, settled
from spinboard.marks import commute, is_even, is_mark, product, read_mark, show_mark, turned_about
from spinboard.moves import turned
from spinboard.rows import backward, run
from spinboard.spreads import spread
from spinboard.tables import is_table, made_of, reduced
from spinboard.tableturns import borne, moved_mark, moved_rows, table_looked, table_settled
from tests.helper import (
    OwnCase, all_marks, all_moves, all_tables, borne_moves, borne_row, even_marks, is_odd_turn_by_words,
    is_reduced_by_words, made_otherwise, products_of, some_board, some_even_marks, some_marks, some_row, some_table,
)

SURE, NEVER, HALF = (1, 0, 1), (0, 0, 1), (1, 0, 2)
BORNE = [
    ("flip", 0), ("mix", 1), ("turn", 2, 2), ("turn", 0, 4), ("turn", 1, 6), ("if", 0, 1), ("pair", 2, 1),
    ("swap", 0, 2),
]
NOT_BORNE = [("turn", cell, k) for cell in range(6) for k in (1, 3, 5, 7)] + [("cross", 0, 1, 2), ("cross", 5, 2, 0)]


def letters_at(cells, named, source):
    """Marks with each q and every choice of flip and sign at the named cells, and any others elsewhere."""
    bits = [2 ** cell for cell in named]
    rest = 2 ** cells - 1 - sum(bits)
    words = [sum(some) for many in range(len(bits) + 1) for some in itertools.combinations(bits, many)]
    for q, flips, signs in itertools.product(range(4), words, words):
        yield (q, flips | source.randrange(2 ** cells) & rest, signs | source.randrange(2 ** cells) & rest)


def named_by(move):
    return move[1:2] if move[0] == "turn" else move[1:]


class Interface(unittest.TestCase):
    def test_names_and_arguments(self):
        asked = {
            "borne": "(row)", "moved_mark": "(mark, row)", "moved_rows": "(rows, row)",
            "table_looked": "(rows, mark)", "table_settled": "(rows, mark, outcome)",
        }
        for name, arguments in asked.items():
            self.assertEqual(str(inspect.signature(getattr(tableturns, name))), arguments, name)


class Borne(unittest.TestCase):
    def test_the_row_without_moves(self):
        self.assertIsNone(borne([]))

    def test_every_move_by_itself(self):
        for cells in range(1, 7):
            for move in all_moves(cells):
                refused = move[0] == "cross" or is_odd_turn_by_words(move)
                self.assertEqual(borne([move]), 0 if refused else None, move)

    def test_rows_of_moves_that_tables_bear(self):
        for cells in range(1, 7):
            for many in [1, 2, 20, 199, 200]:
                self.assertIsNone(borne(borne_row(cells, many, 1)))
            self.assertIsNone(borne(borne_moves(cells)))
        self.assertIsNone(borne(BORNE * 25))

    def test_the_place_of_the_first_that_they_do_not_bear(self):
        for move in NOT_BORNE:
            for place in range(len(BORNE) + 1):
                row = BORNE[:place] + [move] + BORNE[place:]
                self.assertEqual(borne(row), place)
                self.assertIs(type(borne(row)), int)
                self.assertEqual(borne(row + [move, ("cross", 0, 1, 2), ("turn", 0, 1)]), place)
                self.assertEqual(borne(row + BORNE), place)

    def test_at_the_end_of_a_long_row(self):
        for cells in range(1, 7):
            row = borne_row(cells, 199, 2)
            self.assertEqual(borne(row + [("turn", 0, 7)]), 199)
            self.assertEqual(borne(row + [("cross", 0, 1, 2)]), 199)
            self.assertEqual(borne([("turn", 0, 7)] + row), 0)

    def test_rows_of_every_kind(self):
        for cells, seed in itertools.product(range(1, 7), range(30)):
            row = some_row(cells, 1 + seed % 9, seed)
            kept = list(row)
            asked = [place for place, move in enumerate(row) if move[0] == "cross" or is_odd_turn_by_words(move)]
            self.assertEqual(borne(row), asked[0] if asked else None)
            self.assertEqual(row, kept)


# Each even mark with one letter, as it stands behind the move; so the mark turned about with the other sign.
BY_ONE_CELL = {
    ("flip", 0): {"+.": "+.", "+f": "+f", "+s": "-s", "+b": "-b"},
    ("mix", 0): {"+.": "+.", "+f": "+s", "+s": "+f", "+b": "-b"},
    ("turn", 0, 2): {"+.": "+.", "+f": "+b", "+s": "+s", "+b": "-f"},
    ("turn", 0, 4): {"+.": "+.", "+f": "-f", "+s": "+s", "+b": "-b"},
    ("turn", 0, 6): {"+.": "+.", "+f": "-b", "+s": "+s", "+b": "+f"},
}
BY_TWO_CELLS = {
    ("if", 0, 1): {
        "+..": "+..", "+f.": "+ff", "+s.": "+s.", "+b.": "+bf", "+.f": "+.f", "+.s": "+ss", "+.b": "+sb",
        "+ff": "+f.", "+fs": "-bb", "+fb": "+bs", "+ss": "+.s", "+bb": "-fs",
    },
    ("if", 1, 0): {"+f.": "+f.", "+s.": "+ss", "+.f": "+ff", "+.s": "+.s", "+b.": "+bs", "+.b": "+fb"},
    ("pair", 0, 1): {
        "+..": "+..", "+f.": "+fs", "+s.": "+s.", "+b.": "+bs", "+.f": "+sf", "+.s": "+.s", "+.b": "+sb",
        "+ff": "+bb", "+fs": "+f.", "+fb": "-bf", "+bf": "-fb", "+bb": "+ff", "+ss": "+ss",
    },
    ("swap", 0, 1): {
        "+..": "+..", "+f.": "+.f", "+s.": "+.s", "+b.": "+.b", "+fs": "+sf", "+fb": "+bf", "+bs": "+sb", "+bb": "+bb",
    },
}


class MovedMark(unittest.TestCase):
    def test_told_ones(self):
        for cells, told in [(1, BY_ONE_CELL), (2, BY_TWO_CELLS)]:
            for move, by_mark in told.items():
                for ahead, behind in by_mark.items():
                    mark = read_mark(ahead)[0]
                    self.assertEqual(show_mark(moved_mark(mark, [move]), cells), behind, (move, ahead))
                    about = {"+": "-", "-": "+"}[behind[0]] + behind[1:]
                    self.assertEqual(show_mark(moved_mark(turned_about(mark), [move]), cells), about, (move, ahead))
        self.assertEqual(moved_mark((0, 1, 0), [("mix", 0), ("if", 1, 0), ("turn", 1, 2)]), (0, 0, 3))
        self.assertEqual(moved_mark((0, 1, 0), [("if", 0, 1), ("turn", 1, 2)]), (1, 3, 2))
        self.assertEqual(moved_mark((1, 1, 0), [("turn", 0, 2)]), (2, 1, 1))

    def test_the_row_without_moves(self):
        for cells in range(1, 7):
            for mark in some_marks(cells, 30, 1):
                self.assertEqual(moved_mark(mark, []), mark)

    def assert_moved(self, board, mark, row, behind, cells):
        told = moved_mark(mark, row)
        self.assertIs(is_mark(told, cells), True, told)
        self.assertEqual(laid_on(behind, told), run(laid_on(board, mark), row), (mark, row))
        self.assertIs(is_even(told), is_even(mark))
        self.assertEqual(moved_mark(mark, row), told)

    def test_every_mark_and_every_move_of_one_and_two_cells(self):
        for cells in [1, 2]:
            for move, seed in itertools.product(borne_moves(cells), [1, 2]):
                board = some_board(cells, seed)
                for mark in all_marks(cells):
                    self.assert_moved(board, mark, [move], turned(board, move), cells)

    def test_every_move_of_up_to_six_cells_with_every_letter_at_its_cells(self):
        source = random.Random(1)
        for cells in range(1, 7):
            board = some_board(cells, 2)
            for move in borne_moves(cells):
                behind = turned(board, move)
                for mark in letters_at(cells, named_by(move), source):
                    self.assert_moved(board, mark, [move], behind, cells)

    def test_every_word_as_a_beginning(self):
        for cells in [1, 2, 3]:
            for move, word in itertools.product(borne_moves(cells), range(2 ** cells)):
                board = start(cells, word)
                for mark in some_marks(cells, 12, word):
                    self.assert_moved(board, mark, [move], turned(board, move), cells)

    def test_rows_of_up_to_200_moves(self):
        for cells in range(1, 7):
            for many in [2, 3, 7, 40, 200]:
                row = borne_row(cells, many, 3)
                handed = list(row)
                board = some_board(cells, 2)
                behind = run(board, row)
                for mark in some_marks(cells, 6, many):
                    self.assert_moved(board, mark, row, behind, cells)
                self.assertEqual(row, handed)

    def test_move_by_move(self):
        for cells in range(1, 7):
            row = borne_row(cells, 30, 4)
            for mark in some_marks(cells, 10, 2):
                behind = mark
                for move in row:
                    behind = moved_mark(behind, [move])
                self.assertEqual(moved_mark(mark, row), behind)

    def test_back_by_the_backward_row(self):
        for cells in range(1, 7):
            row = borne_row(cells, 50, 5)
            for mark in some_marks(cells, 20, 3):
                self.assertEqual(moved_mark(moved_mark(mark, row), backward(row)), mark)
                self.assertEqual(moved_mark(mark, row + backward(row)), mark)

    def test_products_and_what_commutes(self):
        for cells in range(1, 7):
            row = borne_row(cells, 40, 6)
            for one, other in itertools.product(some_marks(cells, 8, 4), repeat=2):
                moved = moved_mark(one, row), moved_mark(other, row)
                self.assertEqual(product(*moved), moved_mark(product(one, other), row))
                self.assertIs(commute(*moved), commute(one, other))

    def test_not_borne_with_the_place_of_the_first(self):
        # Some of these marks would stay as they are behind the refused move; it is refused all the same.
        for move, place in itertools.product(NOT_BORNE, range(len(BORNE) + 1)):
            row = BORNE[:place] + [move] + BORNE[place:] + [("turn", 1, 5), ("cross", 1, 0, 2)]
            for mark in [(0, 0, 0), (0, 0, 1), (0, 1, 0), (1, 63, 63), (1, 0, 0), (0, 0, 63)]:
                handed = list(row)
                with self.assertRaises(NotBorne) as refused:
                    moved_mark(mark, row)
                self.assertIs(type(refused.exception), NotBorne)
                self.assertEqual(refused.exception.place, place)
                self.assertIs(type(refused.exception.place), int)
                self.assertEqual(row, handed)

    def test_not_borne_at_the_end_of_200_moves(self):
        for cells in range(1, 7):
            row = borne_row(cells, 199, 7)
            for move in [("turn", 0, 3), ("cross", 0, 1, 2)]:
                with self.assertRaises(NotBorne) as refused:
                    moved_mark((0, 1, 0), row + [move])
                self.assertEqual(refused.exception.place, 199)


class MovedRows(OwnCase):
    def test_none_to_twelve_marks_of_any_kind(self):
        for cells, many in itertools.product(range(1, 7), range(13)):
            for row in [[], borne_row(cells, 1, many), borne_row(cells, 25, many)]:
                for rows in [some_marks(cells, many, 5), some_even_marks(cells, many, 6), [(0, 1, 0)] * many]:
                    handed = copy.deepcopy((rows, row))
                    told = moved_rows(rows, row)
                    self.assertIs(type(told), list)
                    self.assertEqual(told, [moved_mark(mark, row) for mark in rows])
                    self.assertEqual((rows, row), handed)

    def test_told_ones(self):
        rows = [(0, 0, 1), (0, 0, 2)]
        self.assertEqual(moved_rows(rows, [("mix", 0), ("if", 0, 1)]), [(0, 3, 0), (0, 0, 3)])
        self.assertEqual(moved_rows(rows, [("flip", 1)]), [(0, 0, 1), (2, 0, 2)])
        self.assertEqual(moved_rows([(0, 0, 1), (0, 0, 1), (1, 1, 0)], [("mix", 0)]), [(0, 1, 0), (0, 1, 0), (1, 0, 1)])
        self.assertEqual(moved_rows([], [("mix", 0)]), [])
        self.assertEqual(moved_rows([], []), [])

    def test_a_table_stays_a_table(self):
        for cells in range(1, 7):
            for many in range(cells + 1):
                rows = some_table(cells, many, 1)
                told = moved_rows(rows, borne_row(cells, 60, many))
                self.assertIs(is_table(told, cells), True)

    def test_the_list_told_is_new(self):
        for cells in range(1, 7):
            for rows in [[], [(0, 0, 1)], some_marks(cells, 12, 7)]:
                for row in [[], [("mix", 0)], borne_row(cells, 9, 1)]:
                    self.assert_own(moved_rows, rows, row)

    def test_not_borne_also_without_marks(self):
        for move, place in itertools.product(NOT_BORNE, range(len(BORNE) + 1)):
            row = BORNE[:place] + [move] + BORNE[place:] + [("cross", 1, 0, 2), ("turn", 0, 1)]
            for rows in [[], [(0, 0, 0)], [(0, 0, 1), (0, 0, 2)], some_marks(6, 12, 1)]:
                handed = copy.deepcopy((rows, row))
                with self.assertRaises(NotBorne) as refused:
                    moved_rows(rows, row)
                self.assertIs(type(refused.exception), NotBorne)
                self.assertEqual(refused.exception.place, place)
                self.assertEqual((rows, row), handed)


def full_tables(cells, seeds=4):
    """Full tables in no order; those of one cell, and many of two cells, all of them."""
    if cells == 1:
        return [rows for rows in all_tables(1) if len(rows) == 1]
    if cells == 2:
        return [rows for rows in all_tables(2) if len(rows) == 2][::11]
    return [some_table(cells, cells, seed) for seed in range(seeds)]


def looked_at(cells):
    return even_marks(cells) if cells < 4 else some_even_marks(cells, 60, 1)


class TableLooked(unittest.TestCase):
    def test_told_ones(self):
        self.assertEqual(table_looked([(0, 0, 1)], (0, 0, 1)), ((1, 0, 1), (0, 0, 1)))
        self.assertEqual(table_looked([(0, 0, 1)], (2, 0, 1)), ((0, 0, 1), (1, 0, 1)))
        self.assertEqual(table_looked([(2, 0, 1)], (0, 0, 1)), ((0, 0, 1), (1, 0, 1)))
        self.assertEqual(table_looked([(0, 0, 1)], (0, 1, 0)), ((1, 0, 2), (1, 0, 2)))
        self.assertEqual(table_looked([(0, 0, 1)], (3, 1, 1)), ((1, 0, 2), (1, 0, 2)))
        self.assertEqual(table_looked([(0, 0, 1)], (0, 0, 0)), ((1, 0, 1), (0, 0, 1)))
        self.assertEqual(table_looked([(0, 0, 1)], (2, 0, 0)), ((0, 0, 1), (1, 0, 1)))
        tied = [(0, 3, 0), (0, 0, 3)]
        self.assertEqual(table_looked(tied, (0, 3, 3)), (SURE, NEVER))
        self.assertEqual(table_looked(tied, (2, 3, 3)), (NEVER, SURE))
        self.assertEqual(table_looked(tied, (0, 0, 1)), (HALF, HALF))

    def assert_looked(self, rows, mark, asked):
        handed = list(rows)
        told = table_looked(rows, mark)
        self.assertEqual(rows, handed)
        self.assertEqual([type(told), type(told[0]), type(told[1])], [tuple] * 3)
        self.assertEqual(told, asked, (rows, mark))
        self.assertEqual(table_looked(rows, mark), told)

    def test_the_marks_of_the_table_and_these_turned_about(self):
        for cells in range(1, 7):
            for rows in full_tables(cells):
                for mark in products_of(rows):
                    self.assert_looked(rows, mark, (SURE, NEVER))
                    self.assert_looked(rows, turned_about(mark), (NEVER, SURE))

    def test_any_other_even_mark(self):
        for cells in range(1, 7):
            for rows in full_tables(cells):
                made = [mark[1:] for mark in products_of(rows)]
                others = [mark for mark in looked_at(cells) if mark[1:] not in made]
                self.assertNotEqual(others, [])
                for mark in others:
                    self.assert_looked(rows, mark, (HALF, HALF))

    def test_as_looks_at_the_board_told_of_the_table(self):
        for cells in range(1, 7):
            for rows in full_tables(cells, 2):
                board = spread(rows)
                for mark in looked_at(cells) + products_of(rows)[:16]:
                    self.assert_looked(rows, mark, looked(board, mark))
                    self.assert_looked(rows, turned_about(mark), looked(board, turned_about(mark)))

    def test_as_looks_at_a_board_turned_beside_it(self):
        for cells in range(1, 7):
            for seed in range(4):
                row = borne_row(cells, 40, seed)
                rows = moved_rows([(0, 0, 2 ** cell) for cell in range(cells)], row)
                board = run(start(cells), row)
                for mark in some_even_marks(cells, 20, seed) + products_of(rows)[-4:]:
                    self.assert_looked(rows, mark, looked(board, mark))


class TableSettled(OwnCase):
    def test_told_ones(self):
        self.assertEqual(table_settled([(0, 0, 1)], (0, 0, 1), 0), [(0, 0, 1)])
        self.assertEqual(table_settled([(0, 0, 1)], (2, 0, 1), 1), [(0, 0, 1)])
        self.assertEqual(table_settled([(0, 0, 1)], (0, 1, 0), 0), [(0, 1, 0)])
        self.assertEqual(table_settled([(0, 0, 1)], (0, 1, 0), 1), [(2, 1, 0)])
        self.assertEqual(table_settled([(0, 0, 1)], (1, 1, 1), 1), [(3, 1, 1)])
        tied = [(0, 3, 0), (0, 0, 3)]
        self.assertEqual(table_settled(tied, (0, 0, 1), 0), [(0, 0, 1), (0, 0, 2)])
        self.assertEqual(table_settled(tied, (0, 0, 1), 1), [(2, 0, 1), (2, 0, 2)])
        self.assertEqual(table_settled(tied, (2, 1, 0), 0), [(2, 1, 0), (2, 2, 0)])
        self.assertEqual(table_settled(tied, (0, 0, 0), 0), tied)
        self.assertEqual(table_settled([(0, 0, 3), (2, 3, 3)], (2, 0, 0), 1), [(2, 3, 0), (0, 0, 3)])

    def assert_settled(self, rows, mark, outcome):
        cells = len(rows)
        handed = list(rows)
        told = table_settled(rows, mark, outcome)
        self.assertEqual(rows, handed)
        self.assertIs(type(told), list)
        self.assertIs(is_table(told, cells), True)
        self.assertEqual(len(told), cells)
        self.assertTrue(is_reduced_by_words(told), told)
        made = products_of(told)
        self.assertIn(turned_about(mark) if outcome == 1 else mark, made)
        for one in products_of(rows):
            if commute(one, mark):
                self.assertIn(one, made)
        self.assertEqual(table_settled(rows, mark, outcome), told)
        return told

    def assert_never(self, rows, mark, outcome):
        handed = list(rows)
        with self.assertRaises(NeverSo) as refused:
            table_settled(rows, mark, outcome)
        self.assertIs(type(refused.exception), NeverSo)
        self.assertEqual(rows, handed)

    def test_the_marks_of_the_table_and_these_turned_about(self):
        for cells in range(1, 7):
            for rows in full_tables(cells, 2):
                for mark in products_of(rows)[::1 if cells < 5 else 5]:
                    self.assertEqual(self.assert_settled(rows, mark, 0), reduced(rows, cells))
                    self.assert_never(rows, mark, 1)
                    self.assertEqual(self.assert_settled(rows, turned_about(mark), 1), reduced(rows, cells))
                    self.assert_never(rows, turned_about(mark), 0)

    def test_any_other_even_mark(self):
        for cells in range(1, 7):
            for rows in full_tables(cells, 3):
                for mark in looked_at(cells)[::1 if cells < 3 else 3]:
                    if made_of(rows, mark, cells)[0] == "apart":
                        self.assert_settled(rows, mark, 0)
                        self.assert_settled(rows, mark, 1)

    def test_each_number_of_rows_that_do_not_commute_at_each_place(self):
        for cells in range(1, 7):
            rows = [(0, 0, 2 ** cell) for cell in range(cells)]
            for flips in range(1, 2 ** cells):
                for outcome in [0, 1]:
                    self.assert_settled(rows, (0, flips, 0), outcome)
                    self.assert_settled(rows[::-1], (0, flips, 0), outcome)
                    self.assert_settled(made_otherwise(rows, flips), (0, flips, 0), outcome)

    def test_as_the_board_told_of_the_table_is_settled(self):
        for cells in range(1, 7):
            for rows in full_tables(cells, 2):
                board = spread(rows)
                marks = looked_at(cells)[::1 if cells < 3 else 5] + products_of(rows)[:4]
                for mark, outcome in itertools.product(marks, [0, 1]):
                    if looked(board, mark)[outcome] == NEVER:
                        self.assert_never(rows, mark, outcome)
                        continue
                    behind = settled(board, mark, outcome)
                    told = self.assert_settled(rows, mark, outcome)
                    for row in told:
                        self.assertEqual(laid_on(behind, row), behind)
                    self.assertIsNone(parted(spread(told), behind))

    def test_the_same_for_tables_with_the_same_marks(self):
        for cells in range(1, 7):
            for seed, outcome in itertools.product(range(3), [0, 1]):
                rows = some_table(cells, cells, seed)
                for mark in some_even_marks(cells, 12, seed):
                    if table_looked(rows, mark)[outcome] != NEVER:
                        told = table_settled(rows, mark, outcome)
                        self.assertEqual(table_settled(made_otherwise(rows, seed), mark, outcome), told)
                        self.assertEqual(table_settled(reduced(rows, cells), mark, outcome), told)

    def test_a_second_look_says_the_same_and_changes_nothing(self):
        for cells in range(1, 7):
            rows = some_table(cells, cells, 5)
            for mark, outcome in itertools.product(some_even_marks(cells, 12, 6), [0, 1]):
                if table_looked(rows, mark)[outcome] != NEVER:
                    told = table_settled(rows, mark, outcome)
                    self.assertEqual(table_looked(told, mark), [(SURE, NEVER), (NEVER, SURE)][outcome])
                    self.assertEqual(table_settled(told, mark, outcome), told)
                    self.assert_never(told, mark, 1 - outcome)

    def test_the_list_told_is_new(self):
        for cells in range(1, 7):
            rows = reduced(some_table(cells, cells, 7), cells)
            for mark in [(0, 0, 0), rows[0], (0, 1, 0), (0, 0, 1), (1, 1, 1)]:
                if table_looked(rows, mark)[0] != NEVER:
                    self.assert_own(table_settled, rows, mark, 0)


if __name__ == "__main__":
    unittest.main()
