import copy
import inspect
import itertools
import unittest

from spinboard import boards
from spinboard.amounts import amount, spun, times, weight
from spinboard.boards import board_of, cells_of, heft, laid_on, parted, scaled, start
from spinboard.errors import NoBoard
from spinboard.shares import share, share_plus, share_times
from tests.helper import (
    ANYTHING, GREAT, NOT_WHOLE, Odd, OwnCase, cells_in, great_board, laid_by_words, some_board, told_by_cells,
)

NOUGHT = (0, 0, 0, 0, 0)
ONE = (1, 0, 0, 0, 0)
ROOT = (0, 1, 0, -1, 0)
FACTORS = [ONE, (-1, 0, 0, 0, 0), ROOT, (0, 0, 1, 0, 0), (3, -1, 2, 5, 4), (GREAT, 1, 0, -GREAT, 1000)]


class BoardCase(OwnCase):
    def assert_board(self, thing, cells):
        self.assertIs(type(thing), list)
        self.assertEqual(len(thing), 2 ** cells)
        self.assertEqual(board_of(thing), thing)


class Interface(unittest.TestCase):
    def test_names_arguments_and_defaults(self):
        asked = {
            "start": "(cells, word=0)", "board_of": "(amounts)", "cells_of": "(board)", "heft": "(board)",
            "scaled": "(board, one)", "laid_on": "(board, mark)", "parted": "(one, other)",
        }
        for name, arguments in asked.items():
            self.assertEqual(str(inspect.signature(getattr(boards, name))), arguments, name)


class Start(BoardCase):
    def test_told_ones(self):
        self.assertEqual(start(1), [ONE, NOUGHT])
        self.assertEqual(start(1, 1), [NOUGHT, ONE])
        self.assertEqual(start(2, 2), [NOUGHT, NOUGHT, ONE, NOUGHT])
        self.assertEqual(start(cells=2, word=3), [NOUGHT, NOUGHT, NOUGHT, ONE])

    def test_each_word_of_one_to_six_cells(self):
        for cells in range(1, 7):
            self.assertEqual(start(cells), start(cells, 0))
            for word in range(2 ** cells):
                told = start(cells, word)
                self.assert_board(told, cells)
                self.assertEqual(told, [NOUGHT] * word + [ONE] + [NOUGHT] * (2 ** cells - 1 - word))

    def test_the_board_is_the_asker_s_own(self):
        self.assert_own(start, 3, 5)
        self.assert_own(start, 1)

    def assert_refused(self, *handed):
        with self.assertRaises(NoBoard):
            start(*handed)

    def test_numbers_of_cells_that_no_board_has(self):
        for cells in [0, -1, -6, 7, 8, 64, GREAT, -GREAT]:
            self.assert_refused(cells)
            self.assert_refused(cells, 0)
            self.assert_refused(cells, 1)

    def test_words_that_the_cells_do_not_have(self):
        for cells in range(1, 7):
            for word in [-1, -2, -(2 ** cells), 2 ** cells, 2 ** cells + 1, 2 ** 7, GREAT, -GREAT]:
                self.assert_refused(cells, word)

    def test_things_of_every_kind(self):
        for thing in NOT_WHOLE:
            self.assert_refused(thing)
            self.assert_refused(thing, 0)
            self.assert_refused(7, thing)
            for cells in range(1, 7):
                self.assert_refused(cells, thing)
            for other in [True, None, Odd(), [1], "1", 0]:
                self.assert_refused(thing, other)


class BoardOf(BoardCase):
    def test_an_equal_list_that_is_not_the_same(self):
        for cells in range(1, 7):
            last = start(cells, 2 ** cells - 1)
            for handed in [some_board(cells, 1), some_board(cells, 2), great_board(cells), last]:
                told = board_of(handed)
                self.assertIs(type(told), list)
                self.assertEqual(told, handed)
                self.assertIsNot(told, handed)
                self.assert_own(board_of, handed)

    def test_a_later_change_of_what_was_handed_in_does_not_show(self):
        handed = [ONE, ROOT]
        told = board_of(handed)
        handed[0] = NOUGHT
        handed.append(ONE)
        self.assertEqual(told, [ONE, ROOT])

    def test_one_amount_that_is_not_nought_is_enough(self):
        for cells in range(1, 7):
            for word in range(2 ** cells):
                handed = [NOUGHT] * 2 ** cells
                handed[word] = (0, 0, 0, 1, 7)
                self.assertEqual(board_of(handed), handed)

    def assert_refused(self, thing):
        with self.assertRaises(NoBoard):
            board_of(thing)

    def test_lists_of_another_length(self):
        for many in range(140):
            if many not in (2, 4, 8, 16, 32, 64):
                self.assert_refused([ONE] * many)

    def test_all_nought(self):
        for many in (2, 4, 8, 16, 32, 64):
            self.assert_refused([NOUGHT] * many)

    def test_tuples_and_other_kinds(self):
        board = start(2)
        things = [tuple(board), dict(enumerate(board)), iter(board), [board], [[ONE, NOUGHT], [NOUGHT, ONE]], "01", ONE]
        for thing in things + ANYTHING:
            self.assert_refused(thing)

    def test_an_amount_that_is_none_at_each_word(self):
        wrong = [
            (2, 0, 0, 0, 1), (0, 0, 0, 0, 1), (2, -4, 6, 8, 3), (4, 0, 0, 0, 1000), (1, 0, 0, 0, -1), (0, 0, 0, 0, -1),
            (1, 0, 0, 0), (1, 0, 0, 0, 0, 0), [1, 0, 0, 0, 0], [0, 0, 0, 0, 0], (True, 0, 0, 0, 0), (1, 0, 0, 0, False),
            (1.0, 0, 0, 0, 0), (0, 0, "0", 0, 0), (1, None, 0, 0, 0), (Odd(), 0, 0, 0, 0),
        ]
        for thing in wrong + ANYTHING:
            for cells in [1, 2, 3, 6]:
                for word in sorted({0, 1, 2 ** cells // 2, 2 ** cells - 1}):
                    handed = [ONE] * 2 ** cells
                    handed[word] = thing
                    self.assert_refused(handed)
        for thing in wrong:
            self.assert_refused([NOUGHT, thing])

    def test_a_refused_list_stays(self):
        for handed in [[NOUGHT, NOUGHT], [ONE, (2, 0, 0, 0, 1)], [ONE], [[1, 0, 0, 0, 0], ONE]]:
            before = copy.deepcopy(handed)
            self.assert_refused(handed)
            self.assertEqual(handed, before)


class CellsOf(BoardCase):
    def test_one_to_six(self):
        for cells in range(1, 7):
            told = cells_of(some_board(cells))
            self.assertEqual(told, cells)
            self.assertIs(type(told), int)


class Heft(BoardCase):
    def test_told_ones(self):
        self.assertEqual(heft(start(3, 5)), (1, 0, 1))
        self.assertEqual(heft([ONE, ONE]), (2, 0, 1))
        self.assertEqual(heft([ROOT, NOUGHT]), (2, 0, 1))
        self.assertEqual(heft([(1, 1, 0, 0, 0), ONE]), (3, 1, 1))
        self.assertEqual(heft([(1, 1, 0, 0, 1), (1, 0, 0, 0, 1)]), (3, 1, 4))
        self.assertEqual(heft([(1, 0, 0, 1, 0), (1, 1, 0, 0, 0)]), (4, 0, 1))
        self.assertEqual(heft([(1, 2, 3, 4, 1), NOUGHT, (1, 0, 0, 0, 3), NOUGHT]), (481, 256, 64))
        self.assertEqual(heft([(0, 1, 0, -1, 1), (0, 1, 0, -1, 1)]), (1, 0, 1))

    def test_it_is_the_sum_of_the_weights(self):
        for cells in range(1, 7):
            for board in [some_board(cells, 1), some_board(cells, 2)]:
                total = share(0)
                for one in board:
                    total = share_plus(total, weight(one))
                self.assertEqual(heft(board), total)
                self.assertEqual(heft(board), share(*heft(board)))

    def test_great_numbers(self):
        board = [(GREAT, 0, 0, 0, 1000), (0, 0, 1, 0, 0)]
        self.assertEqual(heft(board), share(GREAT * GREAT + 4 ** 1000, 0, 4 ** 1000))
        board = great_board(2)
        total = share(0)
        for one in board:
            total = share_plus(total, weight(one))
        self.assertEqual(heft(board), total)

    def test_scaled_it_is_times_the_weight(self):
        for cells in [1, 3, 6]:
            board = some_board(cells)
            for one in FACTORS[:-1]:
                self.assertEqual(heft(scaled(board, one)), share_times(heft(board), weight(one)))

    def test_the_board_stays(self):
        board = some_board(3)
        before = list(board)
        self.assertEqual(heft(board), heft(board))
        self.assertEqual(board, before)


class Scaled(BoardCase):
    def test_told_ones(self):
        self.assertEqual(scaled([ONE, NOUGHT], ROOT), [ROOT, NOUGHT])
        self.assertEqual(scaled([ROOT, (0, 0, 1, 0, 0)], ROOT), [(2, 0, 0, 0, 0), (0, 1, 0, 1, 0)])
        self.assertEqual(scaled([(2, 0, 0, 0, 0), ONE], (1, 0, 0, 0, 1)), [ONE, (1, 0, 0, 0, 1)])

    def test_each_amount_times_it(self):
        for cells in range(1, 7):
            for board in [some_board(cells, 1), great_board(cells)]:
                for one in FACTORS:
                    told = scaled(board, one)
                    self.assert_board(told, cells)
                    self.assertEqual(told, [times(each, one) for each in board])

    def test_the_board_told_is_new(self):
        for cells in range(1, 7):
            for one in FACTORS:
                self.assert_own(scaled, some_board(cells), one)


class LaidOn(BoardCase):
    def test_told_ones(self):
        board = [(1, 0, 0, 0, 0), (2, 0, 0, 0, 0), (3, 0, 0, 0, 0), (5, 0, 0, 0, 0)]
        self.assertEqual(laid_on(board, (0, 0, 0)), board)
        self.assertEqual(laid_on(board, (0, 1, 0)), [board[1], board[0], board[3], board[2]])
        self.assertEqual(laid_on(board, (0, 2, 0)), [board[2], board[3], board[0], board[1]])
        self.assertEqual(laid_on(board, (0, 0, 1)), [board[0], spun(board[1], 4), board[2], spun(board[3], 4)])
        self.assertEqual(laid_on(board, (0, 0, 3)), [board[0], spun(board[1], 4), spun(board[2], 4), board[3]])
        self.assertEqual(laid_on(board, (1, 0, 0)), [spun(one, 2) for one in board])
        self.assertEqual(laid_on([ONE, NOUGHT], (1, 1, 1)), [NOUGHT, (0, 0, 1, 0, 0)])
        self.assertEqual(laid_on([NOUGHT, ONE], (1, 1, 1)), [(0, 0, -1, 0, 0), NOUGHT])

    def assert_laid(self, board, mark, cells):
        told = laid_on(board, mark)
        self.assert_board(told, cells)
        asked = laid_by_words(told_by_cells(board), cells_in(mark[1], cells), cells_in(mark[2], cells), mark[0])
        self.assertEqual(told_by_cells(told), asked, mark)

    def test_every_mark_of_one_to_three_cells(self):
        for cells in [1, 2, 3]:
            board = some_board(cells, 2)
            for mark in itertools.product(range(4), range(2 ** cells), range(2 ** cells)):
                self.assert_laid(board, mark, cells)

    def test_marks_of_four_to_six_cells(self):
        for cells in [4, 5, 6]:
            board = some_board(cells)
            words = [0, 1, 2 ** (cells - 1), 2 ** cells - 1, 5, 6]
            for q, f, s in itertools.product(range(4), words, words):
                if (q + f + s) % 3 == cells % 3:
                    self.assert_laid(board, (q, f, s), cells)

    def test_the_board_told_is_new(self):
        for cells in range(1, 7):
            for mark in [(0, 0, 0), (2, 0, 0), (1, 1, 1), (3, 2 ** cells - 1, 1)]:
                self.assert_own(laid_on, some_board(cells), mark)


class Parted(BoardCase):
    def assert_parted(self, one, other):
        for first, second in [(one, other), (other, one)]:
            told = parted(first, second)
            self.assertIs(type(told), tuple)
            i, j = told
            self.assertIn(i, range(len(first)))
            self.assertIn(j, range(len(first)))
            self.assertEqual([type(i), type(j)], [int, int])
            self.assertNotEqual(times(first[i], second[j]), times(first[j], second[i]))

    def assert_alike(self, one, other):
        self.assertIsNone(parted(one, other))
        self.assertIsNone(parted(other, one))

    def test_told_ones(self):
        self.assert_alike([ONE, NOUGHT], [ROOT, NOUGHT])
        self.assert_alike([ONE, ROOT], [ROOT, (2, 0, 0, 0, 0)])
        self.assert_alike([NOUGHT, ONE, NOUGHT, ROOT], [NOUGHT, ROOT, NOUGHT, (2, 0, 0, 0, 0)])
        self.assert_parted([ONE, NOUGHT], [NOUGHT, ONE])
        self.assert_parted([ONE, ONE], [ONE, NOUGHT])
        self.assert_parted([ONE, ONE], [ONE, (-1, 0, 0, 0, 0)])
        self.assert_parted([NOUGHT, ONE, NOUGHT, ROOT], [NOUGHT, ROOT, ONE, (2, 0, 0, 0, 0)])

    def test_one_times_an_amount_against_it_times_another(self):
        for cells in range(1, 7):
            for board in [some_board(cells, 1), some_board(cells, 2), start(cells), start(cells, 2 ** cells - 1)]:
                for one, other in itertools.product(FACTORS, repeat=2):
                    self.assert_alike(scaled(board, one), scaled(board, other))

    def test_alike_by_a_number_that_is_no_amount(self):
        self.assert_alike([amount(3), amount(6)], [amount(5), amount(10)])
        self.assert_alike([NOUGHT, amount(3), amount(0, 3), NOUGHT], [NOUGHT, amount(7), amount(0, 7), NOUGHT])

    def test_one_amount_changed_at_each_word(self):
        for cells in range(1, 7):
            board = [amount(3 * word + 1, 1, h=word % 3) for word in range(2 ** cells)]
            for word in range(2 ** cells):
                for put in [NOUGHT, spun(board[word], 1), spun(board[word], 4), times(board[word], (3, 0, 0, 0, 0))]:
                    changed = list(board)
                    changed[word] = put
                    self.assert_parted(board, changed)
                    self.assert_parted(scaled(board, ROOT), scaled(changed, (0, 0, 1, 0, 3)))

    def test_noughts_at_unlike_words(self):
        for cells in range(1, 7):
            for i, j in itertools.permutations(range(min(2 ** cells, 8)), 2):
                self.assert_parted(start(cells, i), start(cells, j))

    def test_great_amounts(self):
        board = great_board(4)
        self.assert_alike(scaled(board, FACTORS[-1]), board)
        changed = list(board)
        changed[-1] = (board[-1][0] + 2,) + board[-1][1:]
        self.assert_parted(board, changed)

    def test_unlike_numbers_of_cells_are_refused(self):
        for one, other in itertools.permutations(range(1, 7), 2):
            for made in [start, some_board]:
                with self.assertRaises(NoBoard):
                    parted(made(one), made(other))

    def test_what_is_handed_in_stays(self):
        one = some_board(3)
        other = some_board(3, 2)
        before = (list(one), list(other))
        self.assertEqual(parted(one, other), parted(one, other))
        self.assertIsNone(parted(one, one))
        self.assertEqual((one, other), before)


if __name__ == "__main__":
    unittest.main()
