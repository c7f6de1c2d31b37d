import copy
import inspect
import itertools
import unittest

from spinboard import spreads
from spinboard.amounts import amount, is_amount, mirror, plus, real_share, spun
from spinboard.boards import NOUGHT, ONE, board_of, heft, laid_on, parted, scaled, start
from spinboard.errors import NoTable
from spinboard.looks import is_nothing, looked, settled
from spinboard.marks import commute, is_even, turned_about
from spinboard.rows import backward, run
from spinboard.shares import share_under
from spinboard.spreads import keepers, spread
from spinboard.tables import is_table, reduced
from spinboard.tableturns import moved_rows, table_looked, table_settled
from tests.helper import (
    ANYTHING, NO_TABLES, NOT_WHOLE, RING, Odd, OwnCase, all_moves, all_tables, borne_moves, borne_row, even_marks,
    great_board, is_reduced_by_words, made_otherwise, products_of, row_with_odd_turns, some_board, some_even_marks,
    some_table,
)

NO_SHARE, FULL_SHARE = (0, 0, 1), (1, 0, 1)
HALF = amount(1, h=1)
# One over the root.
ROOTED = amount(0, 1, 0, -1, 1)


def full_tables(cells, seeds=8):
    if cells < 3:
        return [rows for rows in all_tables(cells) if len(rows) == cells]
    return [some_table(cells, cells, seed) for seed in range(seeds)]


class Interface(unittest.TestCase):
    def test_names_and_arguments(self):
        asked = {"spread": "(rows)", "keepers": "(board)"}
        for name, arguments in asked.items():
            self.assertEqual(str(inspect.signature(getattr(spreads, name))), arguments, name)


class Spread(OwnCase):
    def test_told_ones(self):
        minus = spun(ROOTED, 4)
        self.assertEqual(spread([(0, 0, 1)]), [ONE, NOUGHT])
        self.assertEqual(spread([(2, 0, 1)]), [NOUGHT, ONE])
        self.assertEqual(spread([(0, 1, 0)]), [ROOTED, ROOTED])
        self.assertEqual(spread([(2, 1, 0)]), [ROOTED, minus])
        self.assertEqual(spread([(1, 1, 1)]), [ROOTED, spun(ROOTED, 2)])
        self.assertEqual(spread([(3, 1, 1)]), [ROOTED, spun(ROOTED, 6)])
        self.assertEqual(spread([(0, 3, 0), (0, 0, 3)]), [ROOTED, NOUGHT, NOUGHT, ROOTED])
        self.assertEqual(spread([(0, 3, 0), (2, 0, 3)]), [NOUGHT, ROOTED, ROOTED, NOUGHT])
        self.assertEqual(spread([(2, 3, 0), (2, 0, 3)]), [NOUGHT, ROOTED, minus, NOUGHT])
        self.assertEqual(spread([(2, 1, 2), (0, 2, 1)]), [HALF, spun(HALF, 4), HALF, HALF])
        self.assertEqual(spread([(0, 1, 0), (0, 2, 0)]), [HALF] * 4)
        self.assertEqual(spread([(2, 0, 4), (0, 0, 3), (2, 0, 1)]), start(3, 7))

    def assert_spread(self, rows):
        handed = list(rows)
        board = spread(rows)
        self.assertEqual(rows, handed)
        self.assertIs(type(board), list)
        self.assertEqual(len(board), 2 ** len(rows))
        self.assertTrue(all(is_amount(one) for one in board))
        self.assertEqual(board_of(board), board)
        for mark in products_of(rows):
            self.assertEqual(laid_on(board, mark), board, rows)
        self.assertEqual(heft(board), FULL_SHARE)
        first = [one for one in board if one != NOUGHT][0]
        self.assertEqual(mirror(first), first)
        self.assertTrue(share_under(NO_SHARE, real_share(first)))
        self.assertEqual(spread(rows), board)

    def test_full_tables_of_one_to_six_cells(self):
        for cells in range(1, 7):
            for rows in full_tables(cells, 12):
                self.assert_spread(rows)

    def test_tables_of_signs_and_of_flips_with_each_sign_ahead(self):
        for cells in range(1, 7):
            for word in range(2 ** cells):
                signs = [(2 * (word >> cell & 1), 0, 2 ** cell) for cell in range(cells)]
                self.assertEqual(spread(signs), start(cells, word))
                self.assert_spread([(q, s, 0) for q, f, s in signs])
                self.assert_spread([((q + 1) % 4, s, s) for q, f, s in signs])

    def test_tables_moved_through_rows(self):
        for cells in range(1, 7):
            for word in range(0, 2 ** cells, 3):
                row = borne_row(cells, 40, word)
                rows = [(2 * (word >> cell & 1), 0, 2 ** cell) for cell in range(cells)]
                moved = moved_rows(rows, row)
                self.assert_spread(moved)
                self.assertIsNone(parted(spread(moved), run(start(cells, word), row)))

    def test_one_board_for_tables_with_the_same_marks(self):
        for cells in range(1, 7):
            for seed in range(4):
                rows = some_table(cells, cells, seed)
                board = spread(rows)
                for others in [rows[::-1], reduced(rows, cells), made_otherwise(rows, 1), made_otherwise(rows, 2)]:
                    self.assertEqual(spread(others), board)

    def test_another_one_for_other_marks(self):
        for cells in range(1, 7):
            rows = some_table(cells, cells, 5)
            for place, row in enumerate(rows):
                others = rows[:place] + [turned_about(row)] + rows[place + 1:]
                self.assert_spread(others)
                self.assertIsNotNone(parted(spread(others), spread(rows)))

    def test_the_list_told_is_new(self):
        for cells in range(1, 7):
            for seed in range(2):
                self.assert_own(spread, some_table(cells, cells, seed))

    def assert_refused(self, thing):
        with self.assertRaises(NoTable) as refused:
            spread(thing)
        self.assertIs(type(refused.exception), NoTable)

    def test_lists_that_are_no_tables(self):
        for thing in NO_TABLES:
            self.assert_refused(thing)
        for thing in [[], [[]], (), [()], [[(0, 0, 1)]], [((0, 0, 1),)], {0: (0, 0, 1)}, [(0, 0, 1), 0], RING, [RING]]:
            self.assert_refused(thing)

    def test_tables_with_fewer_rows_than_cells(self):
        for cells in range(1, 7):
            for many, seed in itertools.product(range(cells), range(4)):
                rows = some_table(cells, many, seed)
                if any(max(f, s) >= 2 ** many for q, f, s in rows):
                    self.assert_refused(rows)
            for cell in range(cells):
                rows = [(0, 0, 2 ** other) for other in range(cells) if other != cell]
                if cell < cells - 1:
                    self.assert_refused(rows)
                else:
                    self.assertEqual(spread(rows) if rows else start(1), start(max(1, cells - 1)))

    def test_seven_rows_and_more(self):
        for many in [7, 8, 12]:
            self.assertIs(is_table([(0, 0, 2 ** cell) for cell in range(many)], many), True)
            self.assert_refused([(0, 0, 2 ** cell) for cell in range(many)])
            self.assert_refused([(0, 2 ** cell, 0) for cell in range(many)])
        for mark in [(0, 0, 0), (0, 0, 1), (0, 0, 64), (0, 1, 0)]:
            self.assert_refused(some_table(6, 6, 1) + [mark])

    def test_tuples_and_their_like(self):
        for cells in range(1, 7):
            rows = some_table(cells, cells, 2)
            for thing in [tuple(rows), dict.fromkeys(rows), frozenset(rows), iter(rows), [rows], [tuple(rows)]]:
                self.assert_refused(thing)
            for place, row in enumerate(rows):
                for wrong in [list(row), row[:2], row + (0,), None, Odd(), "+" + "s" * cells, row[0]]:
                    self.assert_refused(rows[:place] + [wrong] + rows[place + 1:])

    def test_a_full_table_with_one_row_wrong(self):
        for cells in range(1, 7):
            for seed in range(3):
                rows = some_table(cells, cells, seed)
                for place, (q, f, s) in enumerate(rows):
                    wrong = [((q + 1) % 4, f, s), (q + 4, f, s), (q, f + 2 ** cells, s), (q, f, s + 2 ** cells)]
                    wrong += [(0, 0, 0), (2, 0, 0), (q, -f - 1, s), (q, f, -s - 1), (float(q), f, s)]
                    others = rows[:place] + rows[place + 1:]
                    wrong += [mark for other in others for mark in (other, turned_about(other))]
                    wrong += [mark for mark in some_even_marks(cells, 20, seed) if
                              not all(commute(mark, other) for other in others)]
                    for mark in wrong:
                        self.assert_refused(rows[:place] + [mark] + rows[place + 1:])

    def test_anything(self):
        for thing in ANYTHING:
            self.assert_refused(thing)
            self.assert_refused([thing])
            self.assert_refused((thing,))
            self.assert_refused([(0, 0, 1), thing])
            self.assert_refused([thing, (0, 0, 1)])
        for place, thing in itertools.product(range(3), NOT_WHOLE):
            for others in [0, 1, 2]:
                self.assert_refused([tuple(thing if place == other else others for other in range(3))])

    def test_a_refused_list_stays(self):
        rows = [(0, 0, 1), (0, 1, 0)]
        self.assert_refused(rows)
        self.assertEqual(rows, [(0, 0, 1), (0, 1, 0)])


def settled_to(board, rows):
    """The board settled by each row, by the outcome 1 where 0 leaves nothing."""
    for row in rows:
        shares = looked(board, row)
        board = settled(board, row, 0 if shares[0] != NO_SHARE else 1)
    return board


def leaving_it(board, cells):
    """All even marks of the cells that leave the board as it is, each of them laid on."""
    return [mark for mark in even_marks(cells) if laid_on(board, mark) == board]


class Keepers(OwnCase):
    def test_told_ones(self):
        one, two, none = ONE, amount(2), NOUGHT
        asked = [
            ([one, none], [(0, 0, 1)]), ([none, one], [(2, 0, 1)]), ([one, one], [(0, 1, 0)]),
            ([one, spun(one, 4)], [(2, 1, 0)]), ([one, spun(one, 2)], [(1, 1, 1)]), ([one, spun(one, 6)], [(3, 1, 1)]),
            ([one, spun(one, 1)], []), ([one, spun(one, 3)], []), ([one, two], []), ([two, two], [(0, 1, 0)]),
            ([one, two, none, none], [(0, 0, 2)]), ([none, one, two, none], [(2, 0, 3)]),
            ([one, none, none, two], [(0, 0, 3)]), ([one, one, two, two], [(0, 1, 0)]),
            ([one, two, two, one], [(0, 3, 0)]), ([one, two, spun(two, 2), spun(one, 6)], [(3, 3, 1)]),
            ([one, one, one, two], []), ([one, one, one, spun(one, 4)], [(0, 1, 2), (0, 2, 1)]),
            ([one, none, none, one], [(0, 3, 0), (0, 0, 3)]), ([one, one, one, none], []),
        ]
        for board, rows in asked:
            self.assertEqual(keepers(board), rows, board)

    def assert_keepers(self, board, cells):
        handed = list(board)
        told = keepers(board)
        self.assertEqual(board, handed)
        self.assertIs(type(told), list)
        self.assertIs(is_table(told, cells), True)
        self.assertTrue(is_reduced_by_words(told), told)
        for mark in products_of(told):
            self.assertTrue(is_even(mark))
            self.assertEqual(laid_on(board, mark), board)
        self.assertEqual(keepers(board), told)
        return told

    def assert_all_keepers(self, board, cells):
        told = self.assert_keepers(board, cells)
        self.assertEqual(sorted(products_of(told)), sorted(leaving_it(board, cells)), board)
        return told

    def test_beginnings(self):
        for cells in range(1, 7):
            for word in range(2 ** cells):
                told = self.assert_keepers(start(cells, word), cells)
                self.assertEqual(told, [(2 * (word >> cell & 1), 0, 2 ** cell) for cell in range(cells)])

    def test_boards_told_of_full_tables(self):
        for cells in range(1, 7):
            for rows in full_tables(cells)[::1 if cells != 2 else 7]:
                board = spread(rows)
                self.assertEqual(self.assert_keepers(board, cells), reduced(rows, cells))
                for factor in [amount(3), amount(1, 1), amount(-5, 2, 0, 7, 9), amount(0, 0, 0, 1)]:
                    self.assertEqual(keepers(scaled(board, factor)), reduced(rows, cells))

    def test_every_board_of_few_amounts(self):
        few = [NOUGHT, ONE, spun(ONE, 1), spun(ONE, 2), spun(ONE, 4), amount(2)]
        for cells in [1, 2]:
            for board in itertools.product(few, repeat=2 ** cells):
                if not is_nothing(board):
                    self.assert_all_keepers(list(board), cells)

    def test_boards_of_sundry_amounts_have_none(self):
        for cells in range(1, 7):
            self.assertEqual(self.assert_keepers(some_board(cells, 2), cells), [])
            self.assertEqual(self.assert_keepers(great_board(cells), cells), [])
            odd = [spun(ONE, word % 2) if word < 2 else amount(word) for word in range(2 ** cells)]
            self.assertEqual(self.assert_keepers(odd, cells), [])
        for cells in [1, 2, 3, 4]:
            self.assertEqual(self.assert_all_keepers(some_board(cells, 2), cells), [])
            self.assert_all_keepers(some_board(cells, 1), cells)

    def test_tables_of_none_to_n_rows(self):
        for cells in range(1, 7):
            for many in range(cells + 1):
                rows = some_table(cells, many, 3)
                board = settled_to(some_board(cells, 2), rows)
                told = self.assert_keepers(board, cells)
                made = products_of(told)
                for row in rows:
                    self.assertTrue(row in made or turned_about(row) in made)
                self.assertEqual(len(told), many)

    def test_held_against_all_even_marks(self):
        for cells in [1, 2, 3, 4]:
            for many, seed in itertools.product(range(cells + 1), range(3)):
                rows = some_table(cells, many, seed)
                self.assert_all_keepers(settled_to(some_board(cells, seed), rows), cells)
                self.assert_all_keepers(run(start(cells, seed % 2), row_with_odd_turns(cells, 20, many, seed)), cells)
        for cells in [5, 6]:
            self.assert_all_keepers(settled_to(some_board(cells, 2), some_table(cells, 3, 4)), cells)
            self.assert_all_keepers(run(start(cells, 1), row_with_odd_turns(cells, 30, 2, 4)), cells)

    def test_great_amounts_and_halvings(self):
        for cells in range(1, 7):
            for many in range(cells + 1):
                rows = some_table(cells, many, 5)
                board = settled_to(great_board(cells), rows)
                told = self.assert_keepers(board, cells)
                self.assertEqual(len(told), many)
                for row in rows:
                    self.assertTrue(row in products_of(told) or turned_about(row) in products_of(told))
        great = amount(10 ** 999 + 7, 1, 0, 0, 1000)
        self.assertEqual(keepers([great, great]), [(0, 1, 0)])
        self.assertEqual(keepers([great, plus(great, ONE)]), [])
        self.assertEqual(keepers([great, spun(great, 6)]), [(3, 1, 1)])
        self.assertEqual(keepers([great, amount(10 ** 999 + 7, 1, 0, 0, 999)]), [])

    def test_boards_held_at_few_words(self):
        for cells in [2, 3, 4]:
            words = range(2 ** cells)
            for few in itertools.chain(itertools.combinations(words, 2), list(itertools.combinations(words, 3))[::7]):
                board = [spun(ONE, 2 * word) if word in few else NOUGHT for word in words]
                told = self.assert_keepers(board, cells)
                if cells < 4:
                    self.assertEqual(sorted(products_of(told)), sorted(leaving_it(board, cells)))

    def test_the_keepers_of_a_turned_board_are_the_moved_ones(self):
        for cells in range(1, 7):
            for many in range(cells + 1):
                board = settled_to(some_board(cells, 2), some_table(cells, many, 6))
                for row in [borne_row(cells, 1, many), borne_row(cells, 60, many)]:
                    moved = reduced(moved_rows(keepers(board), row), cells)
                    self.assertEqual(self.assert_keepers(run(board, row), cells), moved)

    def test_the_keepers_of_a_board_turned_by_each_move(self):
        for cells in [1, 2, 3]:
            for many, move in itertools.product(range(cells + 1), borne_moves(cells)):
                board = settled_to(some_board(cells, 1), some_table(cells, many, 7))
                moved = reduced(moved_rows(keepers(board), [move]), cells)
                self.assertEqual(keepers(run(board, [move])), moved)

    def test_odd_turns_and_crosses(self):
        for cells in [1, 2, 3]:
            board = run(start(cells), [("mix", cell) for cell in range(cells)])
            for move in all_moves(cells):
                told = self.assert_all_keepers(run(board, [move]), cells)
                self.assertEqual(keepers(run(run(board, [move]), backward([move]))), keepers(board))
                if move[0] == "turn" and move[2] % 2 == 1:
                    self.assertEqual(len(told), cells - 1)

    def test_the_list_told_is_new(self):
        for cells in range(1, 7):
            for board in [start(cells), some_board(cells, 2), spread(some_table(cells, cells, 1))]:
                self.assert_own(keepers, board)


class BothWays(unittest.TestCase):
    """Boards begun, turned and settled, with a table kept beside them."""

    def assert_kept(self, board, rows, cells, seed):
        for mark in products_of(rows):
            self.assertEqual(laid_on(board, mark), board)
        told = spread(rows)
        self.assertIsNone(parted(told, board))
        self.assertEqual(keepers(board), reduced(rows, cells))
        for mark in some_even_marks(cells, 6, seed) + [rows[0], turned_about(rows[-1])]:
            self.assertEqual(looked(board, mark), table_looked(rows, mark))
            self.assertEqual(looked(told, mark), table_looked(rows, mark))

    def test_rows_and_looks_in_whatever_way_they_come_out(self):
        for cells, seed in itertools.product(range(1, 7), range(4)):
            word = seed * 5 % 2 ** cells
            ways = [(start(cells, word), [(2 * (word >> cell & 1), 0, 2 ** cell) for cell in range(cells)])]
            for step in range(3):
                row = borne_row(cells, 12, f"{seed} {step}")
                mark = some_even_marks(cells, 1, f"{seed} {step}")[0]
                further = []
                for board, rows in ways:
                    board, rows = run(board, row), moved_rows(rows, row)
                    self.assert_kept(board, rows, cells, seed + step)
                    for outcome in [0, 1]:
                        if table_looked(rows, mark)[outcome] != NO_SHARE:
                            further.append((settled(board, mark, outcome), table_settled(rows, mark, outcome)))
                ways = further
            for board, rows in ways:
                self.assert_kept(board, rows, cells, seed)

    def test_200_moves(self):
        for cells in range(1, 7):
            row = borne_row(cells, 200, 9)
            handed = copy.deepcopy(row)
            rows = moved_rows([(0, 0, 2 ** cell) for cell in range(cells)], row)
            self.assert_kept(run(start(cells), row), rows, cells, 9)
            self.assertEqual(row, handed)


if __name__ == "__main__":
    unittest.main()
