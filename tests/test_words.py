import copy
import inspect
import itertools
import random
import unittest

from spinboard import words
from spinboard.amounts import amount
from spinboard.boards import board_of, heft, laid_on, parted, start
from spinboard.errors import NoBoard, NoTable, Unguarded
from spinboard.guards import answers, mends, wrongs
from spinboard.layers import laid
from spinboard.looks import outcomes
from spinboard.rows import run
from spinboard.shares import share_plus
from spinboard.spreads import spread
from spinboard.words import guarded, mended, narrowed, unguarded, widened
from tests.helper import (
    ANYTHING, FIVE, FOUR, NO_TABLES, SIX, SIX_TIED, OwnCase, all_tables, great_board, is_empty_list, products_of,
    row_out_of, some_board, some_row, some_table, table_of, told_by_cells,
)

NOUGHT = (0, 0, 0, 0, 0)
ONE = (1, 0, 0, 0, 0)
SURE = (1, 0, 1)
TIED = table_of("+ff +ss")


def widened_by_words(board, many):
    """The wide board over sets of cells: the first ones are new and without, each old cell is a later one."""
    told = {}
    for cells, one in told_by_cells(board).items():
        for size in range(many + 1):
            for first in itertools.combinations(range(many), size):
                told[frozenset(first) | {cell + many for cell in cells}] = [0] * 4 if first else one
    return told


def boards_of(cells):
    yield some_board(cells, 1)
    yield some_board(cells, 2)
    yield start(cells, 2 ** cells - 1)
    yield run(start(cells), some_row(cells, 20, "words"))


def cells_and_more():
    """Every number of cells of a board and every number of cells that can come to them."""
    for cells in range(1, 7):
        for many in range(7 - cells):
            yield cells, many


class BoardCase(OwnCase):
    def assert_board(self, thing, cells):
        self.assertIs(type(thing), list)
        self.assertEqual(len(thing), 2 ** cells)
        self.assertEqual(board_of(thing), thing)

    def assert_refused(self, error, ask, *handed):
        before = copy.deepcopy(handed)
        with self.assertRaises(error) as refused:
            ask(*handed)
        self.assertIs(type(refused.exception), error)
        self.assertEqual(handed, before)


class Interface(unittest.TestCase):
    def test_names_and_arguments(self):
        asked = {
            "widened": "(board, many)", "narrowed": "(board, many)", "guarded": "(board, rows, cells)",
            "unguarded": "(board, rows, cells)", "mended": "(board, rows, cells, where=None)",
        }
        for name, arguments in asked.items():
            self.assertEqual(str(inspect.signature(getattr(words, name))), arguments, name)


class Widened(BoardCase):
    def test_told_ones(self):
        self.assertEqual(widened([NOUGHT, ONE], 1), [NOUGHT, NOUGHT, ONE, NOUGHT])
        self.assertEqual(widened([ONE, amount(2)], 1), [ONE, NOUGHT, amount(2), NOUGHT])
        self.assertEqual(widened([ONE, amount(2)], 2), [ONE] + [NOUGHT] * 3 + [amount(2)] + [NOUGHT] * 3)
        self.assertEqual(widened([amount(5), ONE, amount(2), amount(3)], 1), [
            amount(5), NOUGHT, ONE, NOUGHT, amount(2), NOUGHT, amount(3), NOUGHT,
        ])
        self.assertEqual(widened(start(2, 3), 4), start(6, 48))
        self.assertEqual(widened(start(1, 1), 5), start(6, 32))

    def test_the_amounts_are_where_the_document_says_and_nought_else(self):
        for cells, many in cells_and_more():
            for board in boards_of(cells):
                handed = list(board)
                told = widened(board, many)
                self.assertEqual(board, handed)
                self.assert_board(told, cells + many)
                self.assertEqual(told_by_cells(told), widened_by_words(board, many))
                self.assertEqual(widened(board, many), told)

    def test_beginnings(self):
        for cells, many in cells_and_more():
            for word in range(2 ** cells):
                self.assertEqual(widened(start(cells, word), many), start(cells + many, word * 2 ** many))

    def test_great_amounts(self):
        for cells, many in cells_and_more():
            board = great_board(cells)
            self.assertEqual(told_by_cells(widened(board, many)), widened_by_words(board, many))

    def test_step_by_step(self):
        for cells, many in cells_and_more():
            for first in range(many + 1):
                board = some_board(cells, 3)
                self.assertEqual(widened(widened(board, first), many - first), widened(board, many))

    def test_more_than_six_cells_in_all(self):
        for cells in range(1, 7):
            for many in range(7 - cells, 7):
                self.assert_refused(NoBoard, widened, some_board(cells, 1), many)
                self.assert_refused(NoBoard, widened, start(cells), many)

    def test_the_list_belongs_to_the_asker(self):
        for cells, many in cells_and_more():
            self.assert_own(widened, some_board(cells, 1), many)
            self.assert_own(widened, start(cells), many)

    def test_by_nought_an_equal_list(self):
        for cells in range(1, 7):
            for board in boards_of(cells):
                self.assertEqual(widened(board, 0), board)
                self.assertIsNot(widened(board, 0), board)


class Narrowed(BoardCase):
    def test_told_ones(self):
        self.assertEqual(narrowed([NOUGHT, NOUGHT, ONE, NOUGHT], 1), [NOUGHT, ONE])
        self.assertEqual(narrowed([amount(3), NOUGHT, ONE, NOUGHT], 1), [amount(3), ONE])
        self.assertEqual(narrowed([amount(3), NOUGHT, NOUGHT, NOUGHT, ONE, NOUGHT, NOUGHT, NOUGHT], 2), [
            amount(3), ONE,
        ])
        self.assertEqual(narrowed(start(6, 48), 4), start(2, 3))
        self.assertEqual(narrowed(start(6, 48), 3), start(3, 6))

    def test_widened_and_narrowed_by_the_same_it_is_the_same_board(self):
        for cells, many in cells_and_more():
            for board in [*boards_of(cells), great_board(cells)]:
                wide = widened(board, many)
                handed = list(wide)
                told = narrowed(wide, many)
                self.assert_board(told, cells)
                self.assertEqual(told, board)
                self.assertEqual(wide, handed)

    def test_by_fewer_cells_than_it_was_widened_by(self):
        for cells, many in cells_and_more():
            for fewer in range(many + 1):
                board = some_board(cells, 2)
                self.assertEqual(narrowed(widened(board, many), fewer), widened(board, many - fewer))

    def test_an_amount_at_a_word_that_has_one_of_the_first_cells(self):
        for cells, many in cells_and_more():
            for word in range(2 ** (cells + many)):
                wide = widened(some_board(cells, 2), many)
                wide[word] = amount(0, 0, 0, 3, 2)
                if word % 2 ** many == 0:
                    self.assertEqual(narrowed(wide, many)[word // 2 ** many], amount(0, 0, 0, 3, 2))
                else:
                    self.assert_refused(NoBoard, narrowed, wide, many)
                    self.assert_refused(NoBoard, narrowed, start(cells + many, word), many)

    def test_boards_held_everywhere(self):
        for cells in range(1, 7):
            for many in range(1, 7):
                self.assert_refused(NoBoard, narrowed, some_board(cells, 2), many)

    def test_no_cell_left(self):
        for cells in range(1, 7):
            for many in range(cells, 7):
                for board in [start(cells), start(cells, 2 ** cells - 1), some_board(cells, 1)]:
                    self.assert_refused(NoBoard, narrowed, board, many)

    def test_by_nought_an_equal_list(self):
        for cells in range(1, 7):
            for board in boards_of(cells):
                self.assertEqual(narrowed(board, 0), board)
                self.assertIsNot(narrowed(board, 0), board)

    def test_the_list_belongs_to_the_asker(self):
        for cells, many in cells_and_more():
            self.assert_own(narrowed, widened(some_board(cells, 1), many), many)


def guards_of(cells):
    """Every number of rows with which boards of so many cells can be guarded, and some tables of so many rows."""
    for many in range(7 - cells):
        for seed in range(3):
            yield some_table(cells + many, many, seed)


class Guarded(BoardCase):
    def assert_guarded(self, board, rows, cells):
        handed = list(board), list(rows)
        told = guarded(board, rows, cells)
        self.assert_board(told, cells)
        for mark in products_of(rows):
            self.assertEqual(laid_on(told, mark), told)
        self.assertEqual(told, run(widened(board, len(rows)), laid(rows, cells)))
        self.assertEqual(heft(told), heft(board))
        back = unguarded(told, rows, cells)
        self.assert_board(back, cells - len(rows))
        self.assertEqual(back, board)
        self.assertEqual(guarded(board, rows, cells), told)
        self.assertEqual((board, rows), handed)

    def test_boards_of_one_to_five_cells(self):
        for cells in range(1, 6):
            for rows in guards_of(cells):
                for board in boards_of(cells):
                    self.assert_guarded(board, rows, cells + len(rows))

    def test_tables_that_guard_each_cell(self):
        for board in boards_of(1):
            self.assert_guarded(board, list(FIVE), 5)
            self.assert_guarded(board, list(SIX), 6)
            self.assert_guarded(board, FIVE[::-1], 5)
        for board in boards_of(2):
            self.assert_guarded(board, list(FOUR), 4)
            self.assert_guarded(board, list(SIX_TIED), 6)

    def test_every_table_of_two_cells(self):
        for rows in all_tables(2):
            if len(rows) < 2:
                self.assert_guarded(some_board(2 - len(rows), 2), rows, 2)

    def test_without_rows_an_equal_list(self):
        for cells in range(1, 7):
            for board in boards_of(cells):
                self.assert_guarded(board, [], cells)
                self.assertEqual(guarded(board, [], cells), board)
                self.assertEqual(unguarded(board, [], cells), board)

    def test_great_amounts(self):
        for cells in range(1, 6):
            rows = some_table(6, 6 - cells, "great")
            self.assert_guarded(great_board(cells), rows, 6)

    def test_a_board_that_each_row_leaves_as_it_is_is_unguarded_and_guarded_again(self):
        for cells in range(2, 7):
            for many in range(cells):
                rows = some_table(cells, many, "again")
                board = some_board(cells, 2)
                for row in rows:
                    board = [one for outs, part, behind in outcomes(board, [row]) if outs == (0,) for one in behind]
                told = unguarded(board, rows, cells)
                self.assert_board(told, cells - many)
                self.assertEqual(guarded(told, rows, cells), board)

    def test_lists_belong_to_the_asker(self):
        for cells in range(1, 6):
            for rows in guards_of(cells):
                board = some_board(cells, 1)
                self.assert_own(guarded, board, rows, cells + len(rows))
                self.assert_own(unguarded, guarded(board, rows, cells + len(rows)), rows, cells + len(rows))


class GuardedRefuses(BoardCase):
    def test_no_table_goes_ahead_of_no_board(self):
        for rows in NO_TABLES:
            for cells in (1, 2, 3, 6):
                for ask in (guarded, unguarded):
                    with self.assertRaises(NoTable):
                        ask(some_board(cells, 1), rows, 3)
                    with self.assertRaises(NoTable):
                        ask(start(cells), rows, 3)

    def test_no_table_of_anything(self):
        for thing in ANYTHING:
            for board, ask in itertools.product([start(1), start(2), start(6)], [guarded, unguarded]):
                for rows in [[thing], [(0, 0, 1), thing]] + ([] if is_empty_list(thing) else [thing]):
                    with self.assertRaises(NoTable):
                        ask(board, rows, 2)

    def test_tables_of_more_cells(self):
        for ask in (guarded, unguarded):
            self.assert_refused(NoTable, ask, start(1), FIVE, 4)
            self.assert_refused(NoTable, ask, start(4), FIVE, 4)
            self.assert_refused(NoTable, ask, start(2), FOUR, 3)

    def test_cells_that_do_not_come_to_what_is_asked(self):
        for cells in range(1, 7):
            for many in range(cells + 1):
                rows = some_table(cells, many, "cells")
                for own in range(1, 7):
                    board = some_board(own, 1)
                    if own + many != cells:
                        self.assert_refused(NoBoard, guarded, board, rows, cells)
                        self.assert_refused(NoBoard, guarded, start(own), rows, cells)
                    if own != cells:
                        self.assert_refused(NoBoard, unguarded, board, rows, cells)
                        self.assert_refused(NoBoard, unguarded, start(own), rows, cells)

    def test_full_tables_leave_no_cell(self):
        for cells in range(1, 7):
            rows = some_table(cells, cells, "full")
            for own in range(1, 7):
                self.assert_refused(NoBoard, guarded, start(own), rows, cells)
            self.assert_refused(NoBoard, unguarded, spread(rows), rows, cells)
            self.assert_refused(NoBoard, unguarded, some_board(cells, 2), rows, cells)

    def test_boards_that_a_row_does_not_leave_as_they_are(self):
        for cells in range(1, 6):
            for rows in guards_of(cells):
                wide = cells + len(rows)
                if rows:
                    self.assert_refused(NoBoard, unguarded, some_board(wide, 2), rows, wide)
                board = guarded(some_board(cells, 2), rows, wide)
                for wrong in wrongs(wide):
                    hit = laid_on(board, wrong)
                    if any(answers(rows, wrong)):
                        self.assert_refused(NoBoard, unguarded, hit, rows, wide)
                    else:
                        self.assertEqual(guarded(unguarded(hit, rows, wide), rows, wide), hit)


def row_at(cell, many, seed):
    """So many moves of one cell alone."""
    moves = [("flip", cell), ("mix", cell)] + [("turn", cell, k) for k in range(1, 8)]
    return row_out_of(moves, many, random.Random(f"{cell} {many} {seed}"))


# Tables that guard the told cells, with their cells.
GUARDS = [
    (FIVE, 5, None), (FIVE, 5, [0, 1, 2, 3, 4]), (FIVE, 5, [4, 2]), (FIVE, 5, [3]), (FIVE[::-1], 5, None),
    (SIX, 6, None), (SIX, 6, [5, 0]), (FOUR, 4, [0]), (FOUR, 4, [3]), (SIX_TIED, 6, [2, 5, 4]),
    (SIX_TIED, 6, [4, 5, 0]),
]


class Mended(BoardCase):
    def assert_mended(self, board, rows, cells, *where):
        """As point 21 tells the outcomes, with the first wrong that has the answers laid on in the third place."""
        handed = copy.deepcopy((board, rows, where))
        told = mended(board, rows, cells, *where)
        self.assertIs(type(told), list)
        seen = outcomes(board, rows)
        self.assertEqual([each[:2] for each in told], [each[:2] for each in seen])
        total = (0, 0, 1)
        for (outs, part, found), (_, _, behind) in zip(told, seen):
            self.assertEqual((type(outs), type(part)), (tuple, tuple))
            fitting = [wrong for wrong in wrongs(cells, *where) if answers(rows, wrong) == outs]
            if fitting:
                self.assert_board(found, cells)
                self.assertEqual(found, laid_on(behind, fitting[0]))
            else:
                self.assertIsNone(found)
            total = share_plus(total, part)
        self.assertEqual(total, SURE)
        self.assertEqual(mended(board, rows, cells, *where), told)
        self.assertEqual((board, rows, where), handed)
        return told

    def test_told_ones(self):
        board = [ONE, NOUGHT, NOUGHT, NOUGHT]
        self.assertEqual(mended(board, [(0, 0, 1)], 2, [0]), [((0,), SURE, board)])
        self.assertEqual(mended([NOUGHT, ONE, NOUGHT, NOUGHT], [(0, 0, 1)], 2, []), [((1,), SURE, None)])
        self.assertEqual(mended([NOUGHT, ONE], [(0, 0, 1)], 1), [((1,), SURE, [ONE, NOUGHT])])
        told = mended([amount(3), amount(4)], [(0, 0, 1)], 1)
        self.assertEqual(told, [((0,), (9, 0, 25), [amount(3), NOUGHT]), ((1,), (16, 0, 25), [amount(4), NOUGHT])])
        told = mended([amount(3), amount(4)], [(0, 0, 1)], 1, [])
        self.assertEqual(told, [((0,), (9, 0, 25), [amount(3), NOUGHT]), ((1,), (16, 0, 25), None)])

    def test_without_a_hit(self):
        for rows, cells, where in GUARDS:
            board = guarded(some_board(cells - len(rows), 2), rows, cells)
            told = self.assert_mended(board, rows, cells, where)
            self.assertEqual(told, [((0,) * len(rows), SURE, board)])

    def test_each_wrong_is_mended(self):
        for rows, cells, where in GUARDS:
            board = guarded(some_board(cells - len(rows), 2), rows, cells)
            for wrong in wrongs(cells, where):
                told = self.assert_mended(laid_on(board, wrong), rows, cells, where)
                self.assertEqual([each[:2] for each in told], [(answers(rows, wrong), SURE)])
                self.assertIsNone(parted(told[0][2], board))

    def test_hit_at_a_told_cell_by_rows_of_moves_of_that_cell_alone(self):
        many_ways = 0
        for rows, cells, where in GUARDS:
            for seed, cell in enumerate(range(cells) if where is None else where):
                for many in [1, 2, 5, 12]:
                    board = guarded(some_board(cells - len(rows), seed), rows, cells)
                    hit = run(board, row_at(cell, many, seed))
                    for outs, part, found in self.assert_mended(hit, rows, cells, where):
                        self.assertIsNone(parted(found, board))
                        many_ways += outs != (0,) * len(rows)
        self.assertGreater(many_ways, 100)

    def test_hit_by_every_move_of_one_cell(self):
        board = guarded(some_board(1, 2), FIVE, 5)
        for cell in range(5):
            for move in [("flip", cell), ("mix", cell)] + [("turn", cell, k) for k in range(1, 8)]:
                for outs, part, found in self.assert_mended(run(board, [move]), FIVE, 5):
                    self.assertIsNone(parted(found, board))

    def test_hit_by_200_moves(self):
        for cell in range(5):
            board = guarded(some_board(1, 1), FIVE, 5)
            for outs, part, found in self.assert_mended(run(board, row_at(cell, 200, 1)), FIVE, 5):
                self.assertIsNone(parted(found, board))

    def test_full_tables_mend_all_cells(self):
        for cells in range(1, 7):
            rows = some_table(cells, cells, "full")
            board = spread(rows)
            for cell in range(cells):
                hit = run(board, row_at(cell, 6, "full"))
                for where in [(), (None,), ([cell],), (list(range(cells))[::-1],)]:
                    for outs, part, found in self.assert_mended(hit, rows, cells, *where):
                        self.assertIsNone(parted(found, board))

    def test_drawn_tables_mend_what_they_guard(self):
        found_guards = 0
        for cells, seed in itertools.product(range(2, 7), range(12)):
            source = random.Random(f"{cells} {seed}")
            rows = some_table(cells, source.randrange(1, cells), seed)
            where = source.sample(range(cells), source.randrange(1, 3))
            try:
                mends(rows, cells, where)
            except Unguarded:
                continue
            found_guards += 1
            board = guarded(some_board(cells - len(rows), seed), rows, cells)
            for cell in where:
                hit = run(board, row_at(cell, 4, seed))
                for outs, part, found in self.assert_mended(hit, rows, cells, where):
                    self.assertIsNone(parted(found, board))
        self.assertGreater(found_guards, 8)

    def test_cells_that_are_tied_to_the_told_one(self):
        board = guarded(start(2), FOUR, 4)
        for cell in range(4):
            hit = run(board, [("mix", cell), ("turn", cell, 1), ("mix", cell)])
            told = self.assert_mended(hit, FOUR, 4, [cell])
            self.assertGreater(len(told), 1)
            for outs, part, found in told:
                self.assertIsNone(parted(found, board))

    def test_none_where_no_wrong_has_the_answers(self):
        board = guarded(some_board(1, 2), FIVE, 5)
        for cell, other in itertools.permutations(range(5), 2):
            told = self.assert_mended(laid_on(board, (0, 2 ** cell, 0)), FIVE, 5, [other])
            self.assertEqual([found for outs, part, found in told], [None])
            told = self.assert_mended(run(board, [("mix", cell)]), FIVE, 5, [other])
            self.assertIn(None, [found for outs, part, found in told])
        told = self.assert_mended(laid_on(board, (0, 1, 0)), FIVE, 5, [])
        self.assertEqual([found for outs, part, found in told], [None])

    def test_boards_that_no_table_guarded(self):
        for rows, cells, where in GUARDS:
            told = self.assert_mended(some_board(cells, 2), rows, cells, where)
            self.assertEqual(len(told), 2 ** len(rows))
        for cells in range(1, 7):
            for board in boards_of(cells):
                self.assert_mended(board, some_table(cells, cells, "boards"), cells)
                self.assert_mended(board, some_table(cells, cells - 1, "boards"), cells, [])

    def test_without_rows(self):
        for cells in range(1, 7):
            board = some_board(cells, 1)
            self.assertEqual(self.assert_mended(board, [], cells, []), [((), SURE, board)])

    def test_where_left_out_or_none_is_all_cells(self):
        board = run(guarded(some_board(1, 2), FIVE, 5), [("mix", 3), ("turn", 3, 1), ("mix", 3)])
        told = self.assert_mended(board, FIVE, 5)
        self.assertEqual(mended(board, FIVE, 5, None), told)
        self.assertEqual(mended(board, FIVE, 5, where=None), told)
        self.assertEqual(mended(board, FIVE, 5, where=[0, 1, 2, 3, 4]), told)
        self.assertNotEqual(mended(board, FIVE, 5, where=[0]), told)

    def test_lists_belong_to_the_asker(self):
        cases = [(run(guarded(some_board(1, 2), FIVE, 5), [("mix", 0)]), list(FIVE), 5), (some_board(3, 1), [], 3, [])]
        for handed in cases:
            self.assert_own(mended, *handed)
            before = copy.deepcopy(handed)
            told = mended(*handed)
            kept = copy.deepcopy(told)
            for outs, part, found in told:
                found[:] = ["changed"]
            self.assertEqual(handed, before)
            self.assertEqual(mended(*handed), kept)


class MendedRefuses(BoardCase):
    def test_no_table_goes_first(self):
        for rows in NO_TABLES:
            for board in (start(1), some_board(3, 1), start(6)):
                for where in [(), (None,), ([],), ([0, 1],)]:
                    with self.assertRaises(NoTable):
                        mended(board, rows, 3, *where)

    def test_no_table_of_anything(self):
        for thing in ANYTHING:
            for board in (start(1), start(2)):
                for rows in [[thing], [(0, 0, 1), thing]] + ([] if is_empty_list(thing) else [thing]):
                    with self.assertRaises(NoTable):
                        mended(board, rows, 2)

    def test_no_board_goes_ahead_of_unguarded(self):
        for cells, own in itertools.permutations(range(1, 7), 2):
            for many in range(cells + 1):
                rows = some_table(cells, many, "refused")
                for where in [(), (None,), ([],), ([0],)]:
                    self.assert_refused(NoBoard, mended, some_board(own, 1), rows, cells, *where)
        self.assert_refused(NoBoard, mended, start(1), FIVE, 5)
        self.assert_refused(NoBoard, mended, start(3), FOUR, 4)
        self.assert_refused(NoBoard, mended, start(5), FOUR, 4)

    def test_unguarded(self):
        cases = [
            (FOUR, 4, ()), (FOUR, 4, (None,)), (FOUR, 4, ([0, 1],)), ([], 1, ()), ([], 6, ([3],)), (FIVE[1:], 5, ()),
            (SIX_TIED, 6, ([0, 1],)), (table_of("+ss. +.ss"), 3, ([1],)),
        ]
        for rows, cells, where in cases:
            for board in [start(cells), some_board(cells, 2)]:
                handed = copy.deepcopy((board, rows, where))
                with self.assertRaises(Unguarded) as refused:
                    mended(board, rows, cells, *where)
                one, other = refused.exception.one, refused.exception.other
                told = wrongs(cells, *where)
                self.assertIn(one, told)
                self.assertIn(other, told)
                self.assertNotEqual(one, other)
                self.assertEqual(answers(rows, one), answers(rows, other))
                self.assertEqual((board, rows, where), handed)

    def test_tied_cells_do_guard(self):
        for board in boards_of(2):
            self.assertEqual([each[:2] for each in mended(board, TIED, 2)], [e[:2] for e in outcomes(board, TIED)])


if __name__ == "__main__":
    unittest.main()
