import copy
import inspect
import itertools
import unittest

from spinboard import sums
from spinboard.amounts import amount, is_amount, plus, spun
from spinboard.boards import NOUGHT, ONE, laid_on, scaled, start
from spinboard.errors import NotBorne
from spinboard.looks import looked
from spinboard.marks import is_mark, read_mark, turned_about
from spinboard.rows import backward, run
from spinboard.shares import share, share_plus
from spinboard.sums import back_sum, sum_share
from spinboard.tableturns import moved_mark
from tests.helper import (
    OwnCase, borne_moves, borne_row, cells_in, even_marks, great_board, row_with_odd_turns, some_board,
    some_even_marks,
)

FULL_SHARE = (1, 0, 1)
MINUS = spun(ONE, 4)
# One over the root, and it turned about.
ROOTED = amount(0, 1, 0, -1, 1)
LESS = spun(ROOTED, 4)
SIX_ODD = [("turn", 0, 1), ("turn", 1, 3), ("turn", 2, 5), ("turn", 0, 7), ("turn", 1, 1), ("turn", 2, 7)]
BORNE = [("flip", 0), ("mix", 1), ("turn", 2, 2), ("if", 0, 1), ("turn", 0, 4), ("pair", 2, 1), ("turn", 1, 6)]


def b_signs(flips, signs):
    return len(cells_in(flips, 6) & cells_in(signs, 6)) % 4


def told_by_letters(told):
    """The list with each mark as (f, s), its q being checked elsewhere."""
    return [(one, mark[1:]) for one, mark in told]


def summed(board, told):
    """The sum over the list of the boards with the mark laid on and scaled by the amount."""
    total = [NOUGHT] * len(board)
    for one, mark in told:
        total = [plus(x, y) for x, y in zip(total, scaled(laid_on(board, mark), one), strict=True)]
    return total


def odd_turns_in(row):
    return len([move for move in row if move[0] == "turn" and move[2] in (1, 3, 5, 7)])


class Interface(unittest.TestCase):
    def test_names_and_arguments(self):
        asked = {"back_sum": "(mark, row)", "sum_share": "(word, row, mark)"}
        for name, arguments in asked.items():
            self.assertEqual(str(inspect.signature(getattr(sums, name))), arguments, name)


class BackSum(OwnCase):
    def test_told_ones(self):
        self.assertEqual(back_sum((0, 1, 0), []), [(ONE, (0, 1, 0))])
        self.assertEqual(back_sum((2, 1, 0), []), [(MINUS, (0, 1, 0))])
        self.assertEqual(back_sum((3, 1, 1), []), [(MINUS, (1, 1, 1))])
        self.assertEqual(back_sum((0, 0, 0), []), [(ONE, (0, 0, 0))])
        self.assertEqual(back_sum((0, 1, 0), [("mix", 0)]), [(ONE, (0, 0, 1))])
        self.assertEqual(back_sum((1, 1, 1), [("mix", 0)]), [(MINUS, (1, 1, 1))])
        # Behind a turn by 2 it is the flip that was `-b` ahead of it: the other way than a mark is moved.
        self.assertEqual(back_sum((0, 1, 0), [("turn", 0, 2)]), [(MINUS, (1, 1, 1))])
        self.assertEqual(back_sum((0, 1, 0), [("turn", 0, 6)]), [(ONE, (1, 1, 1))])
        self.assertEqual(back_sum((0, 0, 1), [("turn", 0, 1)]), [(ONE, (0, 0, 1))])
        self.assertEqual(back_sum((0, 1, 0), [("turn", 1, 1)]), [(ONE, (0, 1, 0))])
        self.assertEqual(back_sum((0, 0, 1), [("mix", 0), ("turn", 0, 1)]), [(ONE, (0, 1, 0))])

    def test_one_odd_turn(self):
        asked = {
            ("+f", 1): [ROOTED, LESS], ("+f", 3): [LESS, LESS], ("+f", 5): [LESS, ROOTED], ("+f", 7): [ROOTED, ROOTED],
            ("+b", 1): [ROOTED, ROOTED], ("+b", 3): [ROOTED, LESS], ("+b", 5): [LESS, LESS], ("+b", 7): [LESS, ROOTED],
        }
        for (text, k), amounts in asked.items():
            told = back_sum(read_mark(text)[0], [("turn", 0, k)])
            self.assertEqual(told, [(amounts[0], (0, 1, 0)), (amounts[1], (1, 1, 1))], (text, k))
            about = [(spun(one, 4), mark) for one, mark in told]
            self.assertEqual(back_sum(turned_about(read_mark(text)[0]), [("turn", 0, k)]), about)
        told = back_sum((0, 0, 1), [("turn", 0, 1), ("mix", 0)])
        self.assertEqual(told, [(ROOTED, (0, 1, 0)), (LESS, (1, 1, 1))])

    def test_odd_turns_that_come_to_an_even_one(self):
        for j, k in itertools.product([1, 3, 5, 7], repeat=2):
            row = [("turn", 0, j), ("turn", 0, k)]
            m = (j + k) % 8
            for mark in even_marks(1):
                self.assertEqual(back_sum(mark, row), back_sum(mark, [("turn", 0, m)] if m else []))
                self.assertEqual(len(back_sum(mark, row)), 1)

    def test_marks_that_come_twice_are_gathered(self):
        row = [("turn", 0, 1), ("mix", 0), ("turn", 0, 1), ("mix", 0), ("turn", 0, 1)]
        # With r one over the root: a half, (1 - r) / 2 and -(1 + r) / 2.
        asked = [(amount(1, h=1), (0, 0, 1)), (amount(2, -1, 0, 1, 2), (0, 1, 0)), (amount(-2, -1, 0, 1, 2), (1, 1, 1))]
        self.assertEqual(back_sum((0, 1, 0), row), asked)

    def assert_form(self, told, mark, row, cells):
        self.assertIs(type(told), list)
        for each in told:
            self.assertIs(type(each), tuple)
            self.assertEqual(len(each), 2)
            one, other = each
            self.assertIs(is_amount(one), True, one)
            self.assertNotEqual(one, NOUGHT)
            self.assertIs(is_mark(other, cells), True, other)
            self.assertEqual(other[0], b_signs(other[1], other[2]))
        words = [(f, s) for one, (q, f, s) in told]
        self.assertEqual(words, sorted(set(words)))
        self.assertLessEqual(len(told), 2 ** odd_turns_in(row))
        self.assertGreaterEqual(len(told), 1)

    def assert_sum(self, mark, row, cells, boards):
        handed = list(row)
        told = back_sum(mark, row)
        self.assertEqual(row, handed)
        self.assert_form(told, mark, row, cells)
        for board in boards:
            self.assertEqual(run(summed(board, told), row), laid_on(run(board, row), mark), (mark, row))
        self.assertEqual(back_sum(mark, row), told)

    def beginnings(self, cells):
        """Enough boards to part any two sums for few cells, some and one of sundry amounts for more."""
        if cells < 4:
            return [start(cells, word) for word in range(2 ** cells)]
        return [start(cells, 0), start(cells, 2 ** cells - 2), some_board(cells, 2)]

    def test_every_mark_and_every_move_of_one_and_two_cells(self):
        for cells in [1, 2]:
            odd = [("turn", cell, k) for cell in range(cells) for k in (1, 3, 5, 7)]
            for move in borne_moves(cells) + odd:
                for mark in even_marks(cells):
                    self.assert_sum(mark, [move], cells, self.beginnings(cells))

    def test_each_move_of_up_to_six_cells(self):
        for cells in range(3, 7):
            odd = [("turn", cell, k) for cell in range(cells) for k in (1, 3, 5, 7)]
            for move in borne_moves(cells)[::1 if cells < 5 else 4] + odd:
                for mark in some_even_marks(cells, 3, str(move)):
                    self.assert_sum(mark, [move], cells, [some_board(cells, 2)])

    def test_rows_without_odd_turns_have_one_mark(self):
        for cells in range(1, 7):
            for many in [0, 1, 5, 50, 200]:
                row = borne_row(cells, many, 1)
                for mark in some_even_marks(cells, 4, many):
                    self.assert_sum(mark, row, cells, self.beginnings(cells)[:2])
                    q, f, s = moved_mark(mark, backward(row))
                    asked = ONE if q == b_signs(f, s) else MINUS
                    self.assertEqual(told_by_letters(back_sum(mark, row)), [(asked, (f, s))])

    def test_rows_with_one_to_six_odd_turns(self):
        for cells in range(1, 7):
            for odd, seed in itertools.product(range(1, 7), range(3 if cells < 4 else 1)):
                row = row_with_odd_turns(cells, 12, odd, seed)
                for mark in some_even_marks(cells, 3, seed):
                    self.assert_sum(mark, row, cells, self.beginnings(cells))

    def test_200_moves_with_six_odd_turns(self):
        for cells in range(1, 7):
            row = row_with_odd_turns(cells, 194, 6, 5)
            self.assertEqual(len(row), 200)
            for mark in some_even_marks(cells, 2, 5):
                self.assert_sum(mark, row, cells, self.beginnings(cells)[-1:])

    def test_as_many_marks_as_there_can_be(self):
        flips = (0, 63, 0)
        for many in range(7):
            row = [("turn", cell, 2 * cell % 8 + 1) for cell in range(many)]
            told = back_sum(flips, row)
            self.assertEqual(len(told), 2 ** many)
            self.assert_sum(flips, row, 6, [some_board(6, 2)])
            self.assertEqual([mark[1:] for one, mark in told], [(63, word) for word in range(2 ** many)])

    def test_a_mark_of_each_number_of_b(self):
        for cells in range(1, 7):
            word = 2 ** cells - 1
            row = [("turn", cell, 3) for cell in range(cells)]
            for mark in [(cells % 4, word, word), ((cells + 2) % 4, word, word)]:
                self.assert_sum(mark, row, cells, [some_board(cells, 2)])
                self.assertIn((cells % 4, word, word), [each for one, each in back_sum(mark, row)])

    def test_marks_rise_by_flips_then_by_signs(self):
        row = [("turn", 0, 1), ("mix", 0), ("if", 0, 1), ("turn", 1, 3), ("mix", 1), ("turn", 0, 5), ("mix", 0)]
        several = 0
        for mark in even_marks(2):
            told = back_sum(mark, row)
            self.assert_form(told, mark, row, 2)
            several += len({each[1] for one, each in told}) > 1 and len({each[2] for one, each in told}) > 1
        self.assertGreater(several, 0)

    def test_great_boards(self):
        for cells in [1, 2, 3]:
            for mark in some_even_marks(cells, 2, 8):
                self.assert_sum(mark, row_with_odd_turns(cells, 10, 6, 8), cells, [great_board(cells)])

    def test_the_list_told_is_new(self):
        for cells in range(1, 7):
            for row in [[], borne_row(cells, 5, 2), row_with_odd_turns(cells, 9, 5, 2)]:
                for mark in some_even_marks(cells, 2, 9):
                    self.assert_own(back_sum, mark, row)


# Rows that are refused, each with the place.
REFUSED = [
    ([("cross", 0, 1, 2)], 0), ([("mix", 0), ("cross", 0, 1, 2), ("cross", 0, 1, 2)], 1),
    (SIX_ODD + [("turn", 0, 1)], 6), (SIX_ODD + [("turn", 3, 5), ("cross", 0, 1, 2)], 6),
    (SIX_ODD + [("cross", 2, 1, 0), ("turn", 0, 1)], 6), (SIX_ODD + BORNE + [("turn", 5, 7)], 13),
    (SIX_ODD[:5] + [("cross", 2, 1, 0)] + SIX_ODD, 5), (BORNE + SIX_ODD + BORNE + SIX_ODD, 20),
    ([("turn", 0, 1)] * 7, 6), ([("turn", 0, 1)] * 200, 6), (BORNE * 28 + [("mix", 0), ("turn", 0, 1)] * 7, 209),
    (SIX_ODD[:3] + [("turn", 0, 2), ("turn", 0, 4), ("turn", 0, 6)] + SIX_ODD[3:] + [("turn", 4, 3)], 9),
    ([("cross", 0, 1, 2)] + SIX_ODD * 2, 0), (BORNE + [("cross", 0, 1, 2)], 7),
]


class NotBorneRows(unittest.TestCase):
    def assert_refused(self, place, ask, *handed):
        before = copy.deepcopy(handed)
        with self.assertRaises(NotBorne) as refused:
            ask(*handed)
        self.assertIs(type(refused.exception), NotBorne)
        self.assertEqual(refused.exception.place, place)
        self.assertIs(type(refused.exception.place), int)
        self.assertEqual(handed, before)

    def test_the_first_cross_or_the_seventh_odd_turn(self):
        # Marks that the refused move would leave as they are, too.
        for row, place in REFUSED:
            for mark in [(0, 0, 0), (0, 0, 1), (0, 1, 0), (3, 7, 7), (2, 0, 63)]:
                self.assert_refused(place, back_sum, mark, row)
                for word in [0, 1, 63]:
                    self.assert_refused(place, sum_share, word, row, mark)

    def test_each_place_of_a_cross(self):
        row = BORNE[:3] + SIX_ODD + BORNE[3:]
        for place in range(len(row) + 1):
            crossed = row[:place] + [("cross", 1, 2, 0)] + row[place:]
            self.assert_refused(place, back_sum, (0, 1, 0), crossed)
            self.assert_refused(place, sum_share, 0, crossed, (0, 1, 0))

    def test_six_odd_turns_of_each_k_are_borne(self):
        for k in [1, 3, 5, 7]:
            row = [("turn", 0, k)] * 6
            self.assertEqual(len(back_sum((0, 1, 0), row)), 1)
            self.assert_refused(6, back_sum, (0, 1, 0), row + [("turn", 0, k)])
            self.assert_refused(6, sum_share, 0, row + [("turn", 0, k)], (0, 1, 0))
        self.assertEqual(sum_share(0, SIX_ODD + BORNE * 20, (0, 0, 0)), FULL_SHARE)

    def test_even_turns_do_not_count(self):
        for k in [2, 4, 6]:
            row = SIX_ODD + [("turn", 0, k)] * 100
            self.assertEqual(len(back_sum((0, 0, 1), row)), 1)
            self.assertEqual(sum_share(1, row, (0, 0, 1)), (0, 0, 1))


class SumShare(unittest.TestCase):
    def test_told_ones(self):
        self.assertEqual(sum_share(0, [], (0, 0, 1)), (1, 0, 1))
        self.assertEqual(sum_share(1, [], (0, 0, 1)), (0, 0, 1))
        self.assertEqual(sum_share(0, [], (0, 1, 0)), (1, 0, 2))
        self.assertEqual(sum_share(0, [("mix", 0)], (0, 1, 0)), (1, 0, 1))
        self.assertEqual(sum_share(1, [("mix", 0)], (0, 1, 0)), (0, 0, 1))
        self.assertEqual(sum_share(3, [], (0, 0, 3)), (1, 0, 1))
        self.assertEqual(sum_share(2, [], (2, 0, 3)), (1, 0, 1))
        half_turned = [("mix", 0), ("turn", 0, 1), ("mix", 0)]
        self.assertEqual(sum_share(0, half_turned, (0, 0, 1)), share(2, 1, 4))
        self.assertEqual(sum_share(1, half_turned, (0, 0, 1)), share(2, -1, 4))
        self.assertEqual(sum_share(0, half_turned, (2, 0, 1)), share(2, -1, 4))
        self.assertEqual(sum_share(0, [("mix", 0), ("turn", 0, 3), ("mix", 0)], (0, 0, 1)), share(2, -1, 4))

    def assert_share(self, word, row, mark, cells):
        handed = list(row)
        told = sum_share(word, row, mark)
        self.assertEqual(row, handed)
        self.assertIs(type(told), tuple)
        self.assertEqual(told, looked(run(start(cells, word), row), mark)[0], (word, row, mark))
        self.assertEqual(sum_share(word, row, mark), told)

    def test_every_word_and_mark_of_one_and_two_cells(self):
        for cells in [1, 2]:
            for odd in range(7):
                row = row_with_odd_turns(cells, 6, odd, 1)
                for word, mark in itertools.product(range(2 ** cells), even_marks(cells)):
                    self.assert_share(word, row, mark, cells)

    def test_rows_with_none_to_six_odd_turns(self):
        for cells in range(1, 7):
            for odd, seed in itertools.product(range(7), range(3)):
                row = row_with_odd_turns(cells, 15, odd, seed)
                for place, mark in enumerate(some_even_marks(cells, 4, f"{odd} {seed}")):
                    self.assert_share((7 * place + 5 * seed + odd) % 2 ** cells, row, mark, cells)

    def test_looks_at_cells(self):
        for cells in range(1, 7):
            row = [("mix", cell) for cell in range(cells)] + row_with_odd_turns(cells, 20, 6, 3)
            for cell in range(cells):
                for word in [0, 2 ** cells - 1, 2 ** cell]:
                    self.assert_share(word, row, (0, 0, 2 ** cell), cells)

    def test_200_moves(self):
        for cells in range(1, 7):
            row = row_with_odd_turns(cells, 194, 6, 4)
            for mark in some_even_marks(cells, 3, 4):
                self.assert_share(2 ** cells - 1, row, mark, cells)

    def test_marks_that_leave_and_turn_about_every_board(self):
        for cells in range(1, 7):
            row = row_with_odd_turns(cells, 8, 6, 6)
            self.assertEqual(sum_share(1, row, (0, 0, 0)), FULL_SHARE)
            self.assertEqual(sum_share(1, row, (2, 0, 0)), (0, 0, 1))

    def test_with_the_mark_turned_about_it_comes_to_one(self):
        for cells in range(1, 7):
            row = row_with_odd_turns(cells, 25, 5, 7)
            for mark in some_even_marks(cells, 8, 7):
                told = sum_share(0, row, mark), sum_share(0, row, turned_about(mark))
                self.assertEqual(share_plus(*told), FULL_SHARE)


if __name__ == "__main__":
    unittest.main()
