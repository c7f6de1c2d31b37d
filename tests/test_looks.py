import copy
import inspect
import itertools
import unittest
from fractions import Fraction

from spinboard import looks
from spinboard.amounts import amount, plus, weight
from spinboard.boards import board_of, heft, laid_on, parted, start
from spinboard.errors import NeverSo, NoMark
from spinboard.looks import likeliest, looked, outcomes, settled, word_shares
from spinboard.marks import commute, is_even, product, turned_about
from spinboard.rows import run
from spinboard.shares import share, share_over, share_plus, share_times, share_under
from tests.helper import (
    OwnCase, all_marks, cells_in, even_marks, great_board, laid_by_words, made_otherwise, no_marks_of, some_board,
    some_even_marks, some_row, some_table, told_by_cells, worth, worth_times,
)

NOUGHT = (0, 0, 0, 0, 0)
ONE = (1, 0, 0, 0, 0)
HALF = (1, 0, 0, 0, 1)
LESS_HALF = (-1, 0, 0, 0, 1)
NO_SHARE = (0, 0, 1)
FULL_SHARE = (1, 0, 1)
HALF_SHARE = (1, 0, 2)


def settled_by_words(board, mark, outcome, cells):
    """Half the sum, or half the difference, of the board and the board that the mark is laid on, as fractions."""
    told = told_by_cells(board)
    laid = laid_by_words(told, cells_in(mark[1], cells), cells_in(mark[2], cells), mark[0])
    sign = 1 if outcome == 0 else -1
    return {word: [(x + sign * y) / 2 for x, y in zip(told[word], laid[word])] for word in told}


def heft_by_words(told):
    """The two parts, without and with the root, of the sum of the products with the mirrors."""
    total = [Fraction(0)] * 4
    for a, b, c, d in told.values():
        total = [x + y for x, y in zip(total, worth_times([a, b, c, d], [a, -d, -c, -b]))]
    return total[0], total[1]


def share_by_words(top, bottom):
    """The tuple of (a + b root) / (c + d root)."""
    (a, b), (c, d) = top, bottom
    rootless = c * c - 2 * d * d
    p, q = (a * c - 2 * b * d) / rootless, (b * c - a * d) / rootless
    n = p.denominator * q.denominator
    return share(int(p * n), int(q * n), n)


def boards_of(cells):
    yield some_board(cells, 1)
    yield some_board(cells, 2)
    yield start(cells, 2 ** cells - 1)
    yield run(start(cells), some_row(cells, 12, 5))


def marks_of(cells):
    return even_marks(cells) if cells < 3 else some_even_marks(cells, 24, 6) + [(0, 0, 0), (2, 0, 0)]


def settled_or_none(board, mark, outcome):
    try:
        return settled(board, mark, outcome)
    except NeverSo:
        return None


class LookCase(OwnCase):
    def assert_board(self, thing, cells):
        self.assertIs(type(thing), list)
        self.assertEqual(len(thing), 2 ** cells)
        self.assertEqual(board_of(thing), thing)

    def assert_share(self, thing):
        self.assertIs(type(thing), tuple)
        self.assertEqual([type(part) for part in thing], [int] * 3)
        self.assertEqual(share(*thing), thing)


class Interface(unittest.TestCase):
    def test_names_and_arguments(self):
        asked = {
            "settled": "(board, mark, outcome)", "looked": "(board, mark)", "outcomes": "(board, marks)",
            "word_shares": "(board)", "likeliest": "(board)",
        }
        for name, arguments in asked.items():
            self.assertEqual(str(inspect.signature(getattr(looks, name))), arguments, name)


class Settled(LookCase):
    def test_told_ones(self):
        board = [(2, 0, 0, 0, 0), (4, 0, 0, 0, 0), (6, 0, 0, 0, 0), (10, 0, 0, 0, 0)]
        self.assertEqual(settled(board, (0, 0, 1), 0), [board[0], NOUGHT, board[2], NOUGHT])
        self.assertEqual(settled(board, (0, 0, 1), 1), [NOUGHT, board[1], NOUGHT, board[3]])
        self.assertEqual(settled(board, (0, 0, 2), 0), [board[0], board[1], NOUGHT, NOUGHT])
        self.assertEqual(settled(board, (2, 0, 2), 0), [NOUGHT, NOUGHT, board[2], board[3]])
        self.assertEqual(settled(board, (0, 1, 0), 0), [amount(3), amount(3), amount(8), amount(8)])
        self.assertEqual(settled(board, (0, 1, 0), 1), [amount(-1), amount(1), amount(-2), amount(2)])
        self.assertEqual(settled([ONE, NOUGHT], (0, 1, 0), 0), [HALF, HALF])
        self.assertEqual(settled([ONE, NOUGHT], (0, 1, 0), 1), [HALF, LESS_HALF])
        self.assertEqual(settled([ONE, NOUGHT], (1, 1, 1), 0), [HALF, (0, 0, 1, 0, 1)])
        self.assertEqual(settled([ONE, NOUGHT], (1, 1, 1), 1), [HALF, (0, 0, -1, 0, 1)])
        self.assertEqual(settled([NOUGHT, ONE], (1, 1, 1), 0), [(0, 0, -1, 0, 1), HALF])
        self.assertEqual(settled(board, (0, 0, 0), 0), board)
        self.assertEqual(settled(board, (2, 0, 0), 1), board)

    def assert_settled(self, board, mark, cells):
        for outcome in [0, 1]:
            asked = settled_by_words(board, mark, outcome, cells)
            if any(any(one) for one in asked.values()):
                told = settled(board, mark, outcome)
                self.assert_board(told, cells)
                self.assertEqual(told_by_cells(told), asked, (mark, outcome))
            else:
                with self.assertRaises(NeverSo):
                    settled(board, mark, outcome)

    def test_half_the_sum_and_half_the_difference(self):
        for cells in range(1, 7):
            for board in boards_of(cells):
                for mark in marks_of(cells)[:24 if cells < 5 else 8]:
                    self.assert_settled(board, mark, cells)

    def test_great_amounts_and_halvings(self):
        for cells in range(1, 7):
            board = great_board(cells)
            for mark in [(0, 0, 1), (0, 2 ** cells - 1, 0), (3, 1, 1), some_even_marks(cells, 1, 7)[0]]:
                self.assert_settled(board, mark, cells)

    def test_both_outcomes_sum_to_the_board(self):
        for cells in range(1, 7):
            board = some_board(cells, 4)
            for mark in some_even_marks(cells, 12, 8):
                if mark[1] != 0:
                    both = zip(settled(board, mark, 0), settled(board, mark, 1))
                    self.assertEqual([plus(one, other) for one, other in both], board)

    def test_the_mark_leaves_what_it_settled(self):
        for cells in range(1, 7):
            for board in boards_of(cells):
                for mark in marks_of(cells)[:12]:
                    for outcome in [0, 1]:
                        behind = settled_or_none(board, mark, outcome)
                        if behind is not None:
                            leaving = mark if outcome == 0 else turned_about(mark)
                            self.assertEqual(laid_on(behind, leaving), behind)
                            self.assertEqual(settled(board, turned_about(mark), 1 - outcome), behind)

    def test_a_second_look_says_the_same_and_changes_nothing(self):
        for cells in range(1, 7):
            for board in list(boards_of(cells)) + [great_board(cells)]:
                for mark in marks_of(cells)[:8]:
                    for outcome in [0, 1]:
                        behind = settled_or_none(board, mark, outcome)
                        if behind is not None:
                            self.assertEqual(settled(behind, mark, outcome), behind)
                            shares = (FULL_SHARE, NO_SHARE) if outcome == 0 else (NO_SHARE, FULL_SHARE)
                            self.assertEqual(looked(behind, mark), shares)
                            with self.assertRaises(NeverSo):
                                settled(behind, mark, 1 - outcome)

    def test_the_look_at_a_cell_keeps_the_words_without_it_or_with_it(self):
        for cells in range(1, 7):
            board = great_board(cells)
            for cell in range(cells):
                for outcome in [0, 1]:
                    asked = [one if word // 2 ** cell % 2 == outcome else NOUGHT for word, one in enumerate(board)]
                    self.assertEqual(settled(board, (0, 0, 2 ** cell), outcome), asked)

    def test_the_board_told_is_new(self):
        for cells in range(1, 7):
            for mark in [(0, 0, 0), (0, 1, 0), (0, 0, 2 ** cells - 1), (1, 1, 1)]:
                self.assert_own(settled, some_board(cells), mark, 0)
            self.assert_own(settled, some_board(cells), (2, 0, 0), 1)

    def test_an_outcome_that_leaves_nothing(self):
        for cells in range(1, 7):
            for word in {0, 1, 2 ** cells - 1}:
                for cell in range(cells):
                    board = start(cells, word)
                    has = word // 2 ** cell % 2
                    self.assertEqual(settled(board, (0, 0, 2 ** cell), has), board)
                    with self.assertRaises(NeverSo):
                        settled(board, (0, 0, 2 ** cell), 1 - has)
                    self.assertEqual(board, start(cells, word))
            for board in boards_of(cells):
                for mark, outcome in [((0, 0, 0), 1), ((2, 0, 0), 0)]:
                    with self.assertRaises(NeverSo):
                        settled(board, mark, outcome)


class Looked(LookCase):
    def test_told_ones(self):
        self.assertEqual(looked([ONE, NOUGHT], (0, 0, 1)), (FULL_SHARE, NO_SHARE))
        self.assertEqual(looked([ONE, NOUGHT], (2, 0, 1)), (NO_SHARE, FULL_SHARE))
        self.assertEqual(looked([NOUGHT, ONE], (0, 0, 1)), (NO_SHARE, FULL_SHARE))
        self.assertEqual(looked([ONE, NOUGHT], (0, 1, 0)), (HALF_SHARE, HALF_SHARE))
        self.assertEqual(looked([ONE, NOUGHT], (3, 1, 1)), (HALF_SHARE, HALF_SHARE))
        self.assertEqual(looked([amount(1), amount(2)], (0, 0, 1)), ((1, 0, 5), (4, 0, 5)))
        self.assertEqual(looked([amount(1), amount(2)], (0, 1, 0)), ((9, 0, 10), (1, 0, 10)))
        # Mixed, turned by 1: the halves with the root over 4 more and less.
        self.assertEqual(looked(run(start(1), [("mix", 0), ("turn", 0, 1)]), (0, 1, 0)), ((2, 1, 4), (2, -1, 4)))
        self.assertEqual(looked(start(2), (0, 0, 0)), (FULL_SHARE, NO_SHARE))
        self.assertEqual(looked(start(2), (2, 0, 0)), (NO_SHARE, FULL_SHARE))

    def assert_looked(self, board, mark, cells):
        told = looked(board, mark)
        self.assertIs(type(told), tuple)
        self.assertEqual(len(told), 2)
        ahead = heft_by_words(told_by_cells(board))
        for outcome in [0, 1]:
            self.assert_share(told[outcome])
            behind = heft_by_words(settled_by_words(board, mark, outcome, cells))
            self.assertEqual(told[outcome], share_by_words(behind, ahead), (mark, outcome))
            self.assertEqual(told[outcome] == NO_SHARE, settled_or_none(board, mark, outcome) is None)
        self.assertEqual(share_plus(told[0], told[1]), FULL_SHARE)

    def test_the_hefts_over_the_heft_ahead(self):
        for cells in range(1, 7):
            for board in boards_of(cells):
                for mark in marks_of(cells)[:20 if cells < 5 else 6]:
                    self.assert_looked(board, mark, cells)

    def test_great_amounts_and_halvings(self):
        for cells in [1, 2, 3, 6]:
            board = great_board(cells)
            for mark in [(0, 0, 1), (0, 2 ** cells - 1, 0), (3, 1, 1)]:
                told = looked(board, mark)
                for outcome in [0, 1]:
                    self.assertEqual(told[outcome], share_over(heft(settled(board, mark, outcome)), heft(board)))
                self.assertEqual(share_plus(told[0], told[1]), FULL_SHARE)

    def test_turned_about_the_shares_change_places(self):
        for cells in range(1, 7):
            board = some_board(cells)
            for mark in some_even_marks(cells, 6, 9):
                told = looked(board, mark)
                self.assertEqual(looked(board, turned_about(mark)), (told[1], told[0]))

    def test_the_board_stays_and_the_same_is_told_again(self):
        for cells in range(1, 7):
            board = some_board(cells)
            for mark in [(0, 0, 0), (0, 1, 0), (1, 1, 1)]:
                self.assertEqual(looked(board, mark), looked(board, mark))
                self.assertEqual(board, some_board(cells))


class NoMarks(LookCase):
    def assert_refused(self, ask, cells, *handed):
        board = some_board(cells)
        with self.assertRaises(NoMark):
            ask(board, *handed)
        self.assertEqual(board, some_board(cells))

    def test_anything_that_is_no_even_mark_of_the_cells(self):
        for cells in range(1, 7):
            for thing in no_marks_of(cells):
                self.assert_refused(looked, cells, thing)
                self.assert_refused(settled, cells, thing, 0)
                self.assert_refused(settled, cells, thing, 1)

    def test_every_odd_mark(self):
        for cells in [1, 2]:
            for mark in all_marks(cells):
                if not is_even(mark):
                    self.assert_refused(looked, cells, mark)
                    self.assert_refused(settled, cells, mark, 0)
                    self.assert_refused(settled, cells, mark, 1)
                    self.assert_refused(outcomes, cells, [mark])

    def test_ahead_of_never_so(self):
        # Were they even marks of the cells, each of these would leave nothing of the board by one of its outcomes.
        for mark in [(1, 0, 0), (3, 0, 0), (0, 0, 4), [0, 0, 1], (False, 0, 1), (0, False, 1), (0, 0, True)]:
            for outcome in [0, 1]:
                with self.assertRaises(NoMark):
                    settled(start(2, 0), mark, outcome)
                with self.assertRaises(NoMark):
                    settled(start(2, 3), mark, outcome)

    def test_in_the_list_of_several_at_each_place(self):
        for cells in [1, 3, 6]:
            good = [(0, 0, 1), (0, 1, 0), (3, 1, 1)]
            for thing in no_marks_of(cells):
                for place in range(4):
                    self.assert_refused(outcomes, cells, good[:place] + [thing] + good[place:])
                self.assert_refused(outcomes, cells, [thing])
                self.assert_refused(outcomes, cells, [thing, thing])

    def test_a_refused_mark_stays(self):
        handed = [0, 0, 1]
        self.assert_refused(looked, 1, handed)
        self.assert_refused(settled, 1, handed, 0)
        among = [(0, 0, 1), handed]
        self.assert_refused(outcomes, 1, among)
        self.assertEqual((handed, among), ([0, 0, 1], [(0, 0, 1), [0, 0, 1]]))


def outcomes_by_looks(board, marks):
    """Each row of outs tried by itself, one look behind another."""
    told = []
    for outs in itertools.product([0, 1], repeat=len(marks)):
        behind = board
        for mark, outcome in zip(marks, outs):
            behind = None if behind is None else settled_or_none(behind, mark, outcome)
        if behind is not None:
            told.append((outs, share_over(heft(behind), heft(board)), behind))
    return told


class Outcomes(LookCase):
    def test_told_ones(self):
        board = [(2, 0, 0, 0, 0), (4, 0, 0, 0, 0)]
        self.assertEqual(outcomes(board, []), [((), FULL_SHARE, board)])
        self.assertEqual(outcomes(board, [(0, 0, 1)]), [
            ((0,), (1, 0, 5), [amount(2), NOUGHT]), ((1,), (4, 0, 5), [NOUGHT, amount(4)]),
        ])
        self.assertEqual(outcomes(board, [(0, 0, 1), (0, 0, 1)]), [
            ((0, 0), (1, 0, 5), [amount(2), NOUGHT]), ((1, 1), (4, 0, 5), [NOUGHT, amount(4)]),
        ])
        self.assertEqual(outcomes(board, [(0, 0, 1), (0, 1, 0)]), [
            ((0, 0), (1, 0, 10), [amount(1), amount(1)]), ((0, 1), (1, 0, 10), [amount(1), amount(-1)]),
            ((1, 0), (2, 0, 5), [amount(2), amount(2)]), ((1, 1), (2, 0, 5), [amount(-2), amount(2)]),
        ])
        self.assertEqual(outcomes(board, [(0, 1, 0), (0, 0, 1)]), [
            ((0, 0), (9, 0, 20), [amount(3), NOUGHT]), ((0, 1), (9, 0, 20), [NOUGHT, amount(3)]),
            ((1, 0), (1, 0, 20), [amount(-1), NOUGHT]), ((1, 1), (1, 0, 20), [NOUGHT, amount(1)]),
        ])
        self.assertEqual(outcomes(start(2, 2), [(0, 0, 1), (0, 0, 2)]), [((0, 1), FULL_SHARE, start(2, 2))])

    def assert_outcomes(self, board, marks, cells):
        handed = copy.deepcopy((board, marks))
        told = outcomes(board, marks)
        self.assertEqual((board, marks), handed)
        self.assertIs(type(told), list)
        self.assertEqual(told, outcomes_by_looks(board, marks))
        total = NO_SHARE
        for one in told:
            self.assertEqual([type(one), type(one[0])], [tuple, tuple])
            self.assertEqual([type(out) for out in one[0]], [int] * len(marks))
            self.assert_share(one[1])
            self.assert_board(one[2], cells)
            total = share_plus(total, one[1])
        self.assertEqual(total, FULL_SHARE)
        rising = [one[0] for one in told]
        self.assertEqual(rising, sorted(set(rising)))

    def test_none_to_six_marks(self):
        for cells in range(1, 7):
            for many in range(7 if cells < 5 else 4):
                for seed in [1, 2]:
                    self.assert_outcomes(some_board(cells, seed), some_even_marks(cells, many, seed), cells)
                self.assert_outcomes(start(cells), some_even_marks(cells, many, 3), cells)

    def test_six_marks_of_six_cells(self):
        self.assert_outcomes(start(6, 21), some_even_marks(6, 6, 4), 6)
        self.assert_outcomes(some_board(6), some_table(6, 6, 4), 6)

    def test_marks_that_do_not_commute(self):
        for cells in [1, 2, 4]:
            for marks in itertools.product([(0, 0, 1), (0, 1, 0), (1, 1, 1)], repeat=3):
                self.assert_outcomes(some_board(cells), list(marks), cells)
                self.assert_outcomes(start(cells), list(marks), cells)

    def test_one_mark_twice_and_turned_about(self):
        for cells in range(1, 7):
            board = some_board(cells, 2)
            for mark in some_even_marks(cells, 6, 5):
                if mark[1:] != (0, 0):
                    told = outcomes(board, [mark])
                    twice = [((outs[0], outs[0]), part, behind) for outs, part, behind in told]
                    about = [((outs[0], 1 - outs[0]), part, behind) for outs, part, behind in told]
                    self.assertEqual(outcomes(board, [mark, mark]), twice)
                    self.assertEqual(outcomes(board, [mark, turned_about(mark)]), about)

    def test_the_product_comes_out_by_the_outs_of_its_marks(self):
        for cells in range(2, 7):
            one, other = some_table(cells, 2, 6)
            for outs, part, behind in outcomes(some_board(cells), [one, other, product(one, other)]):
                self.assertEqual(outs[2], (outs[0] + outs[1]) % 2)

    def test_great_amounts(self):
        for cells in [1, 2]:
            self.assert_outcomes(great_board(cells), [(0, 0, 1), (0, 1, 0), (3, 1, 1)], cells)

    def test_of_no_marks_an_equal_board_of_the_asker_s_own(self):
        for cells in range(1, 7):
            board = some_board(cells)
            told = outcomes(board, [])
            self.assertEqual(told, [((), FULL_SHARE, board)])
            self.assertIsNot(told[0][2], board)
            told[0][2][0] = "changed"
            self.assertEqual(board, some_board(cells))
            self.assertEqual(outcomes(board, []), [((), FULL_SHARE, some_board(cells))])

    def test_the_lists_told_are_new(self):
        for marks in [[], [(0, 0, 0)], [(0, 0, 1)], [(0, 0, 1), (0, 0, 1), (0, 2, 0)]]:
            board = some_board(3)
            self.assert_own(outcomes, board, marks)
            first = outcomes(board, marks)
            kept = copy.deepcopy(first)
            self.assertEqual(len({id(one[2]) for one in first} | {id(board)}), len(first) + 1)
            for one in first:
                one[2][0] = "changed"
                one[2].append("more")
            self.assertEqual(board, some_board(3))
            self.assertEqual(outcomes(board, marks), kept)


class PlacesChanged(LookCase):
    def in_the_first_order(self, told, order):
        back = [order.index(place) for place in range(len(order))]
        return sorted((tuple(outs[place] for place in back), part, behind) for outs, part, behind in told)

    def test_looks_at_marks_that_commute(self):
        for cells in range(1, 7):
            for many in range(1, min(cells, 4) + 1):
                marks = made_otherwise(some_table(cells, many, 7), 1)
                self.assertTrue(all(commute(one, other) for one in marks for other in marks))
                for board in [some_board(cells), start(cells)]:
                    told = outcomes(board, marks)
                    for order in itertools.permutations(range(many)):
                        other = outcomes(board, [marks[place] for place in order])
                        self.assertEqual(self.in_the_first_order(other, order), told)

    def test_looks_at_marks_that_do_not_commute_may_not(self):
        told = outcomes(start(1), [(0, 0, 1), (0, 1, 0)])
        other = outcomes(start(1), [(0, 1, 0), (0, 0, 1)])
        self.assertNotEqual(self.in_the_first_order(other, (1, 0)), told)


class WordShares(LookCase):
    def test_told_ones(self):
        self.assertEqual(word_shares(start(2, 1)), [NO_SHARE, FULL_SHARE, NO_SHARE, NO_SHARE])
        self.assertEqual(word_shares([amount(1), amount(0, 0, 2)]), [(1, 0, 5), (4, 0, 5)])
        self.assertEqual(word_shares([ONE, amount(1, 1)]), [(3, -1, 7), (4, 1, 7)])
        self.assertEqual(word_shares(run(start(1), [("mix", 0)])), [HALF_SHARE, HALF_SHARE])

    def test_weights_over_the_heft(self):
        for cells in range(1, 7):
            for board in boards_of(cells):
                told = word_shares(board)
                self.assertIs(type(told), list)
                ahead = heft_by_words(told_by_cells(board))
                total = NO_SHARE
                for one, part in zip(board, told, strict=True):
                    self.assert_share(part)
                    self.assertEqual(part, share_by_words(heft_by_words({0: worth(one)}), ahead))
                    total = share_plus(total, part)
                self.assertEqual(total, FULL_SHARE)

    def test_they_are_the_shares_of_looks_at_all_cells(self):
        for cells in [1, 2, 3]:
            board = some_board(cells, 2)
            told = outcomes(board, [(0, 0, 2 ** cell) for cell in reversed(range(cells))])
            self.assertEqual([part for outs, part, behind in told], word_shares(board))

    def test_great_amounts(self):
        board = great_board(3)
        told = word_shares(board)
        for one, part in zip(board, told, strict=True):
            self.assertEqual(share_times(part, heft(board)), weight(one))

    def test_the_list_told_is_new(self):
        for cells in range(1, 7):
            self.assert_own(word_shares, some_board(cells))


class Likeliest(LookCase):
    def test_told_ones(self):
        self.assertEqual(likeliest(start(3, 5)), [5])
        self.assertEqual(likeliest([amount(1), amount(2), amount(2), amount(0)]), [1, 2])
        self.assertEqual(likeliest([amount(3), amount(2), amount(-3), amount(0, 0, 0, 3)]), [0, 2, 3])
        self.assertEqual(likeliest(run(start(2), [("mix", 0)])), [0, 1])
        self.assertEqual(likeliest(run(start(2), [("mix", 0), ("mix", 1), ("turn", 1, 3)])), [0, 1, 2, 3])
        # The weight of 1 + e is 2 and the root, between 3 and 4.
        self.assertEqual(likeliest([amount(1, 1), amount(2)]), [1])
        self.assertEqual(likeliest([amount(1, 1), amount(1, 1, 1), amount(1, 0, 1)]), [1])
        self.assertEqual(likeliest([amount(1, 1), amount(1, 0, 1)]), [0])
        self.assertEqual(likeliest([amount(2, h=1), amount(3, h=1)]), [1])
        self.assertEqual(likeliest([amount(1, 1), amount(7, h=2)]), [0])
        self.assertEqual(likeliest([amount(1, 1), amount(15, h=3)]), [1])

    def test_no_other_share_is_greater(self):
        for cells in range(1, 7):
            for board in boards_of(cells):
                shares = word_shares(board)
                told = likeliest(board)
                self.assertIs(type(told), list)
                self.assertEqual([type(word) for word in told], [int] * len(told))
                asked = [word for word, part in enumerate(shares) if not any(share_under(part, one) for one in shares)]
                self.assertEqual(told, asked)

    def test_the_greatest_at_each_word_and_at_two(self):
        for cells in range(1, 7):
            for word in range(2 ** cells):
                board = [amount(2, 1, 0, place % 3, 1) for place in range(2 ** cells)]
                board[word] = amount(0, 0, -9)
                self.assertEqual(likeliest(board), [word])
                board[(word + 1) % 2 ** cells] = amount(0, 9)
                self.assertEqual(likeliest(board), sorted([word, (word + 1) % 2 ** cells]))

    def test_close_great_amounts(self):
        great = 10 ** 998
        self.assertEqual(likeliest([amount(great, h=1000), amount(great + 1, h=1000)]), [1])
        self.assertEqual(likeliest([amount(great + 1), amount(0, great + 1), amount(great), NOUGHT]), [0, 1])
        self.assertEqual(likeliest(great_board(2)), likeliest(great_board(2)))

    def test_the_list_told_is_new(self):
        for cells in range(1, 7):
            self.assert_own(likeliest, some_board(cells))


class AlikeBoards(LookCase):
    def test_looks_of_alike_boards_have_the_same_shares(self):
        for cells in [1, 2, 3]:
            board = run(start(cells), some_row(cells, 10, 8))
            other = [(3 * a, 3 * b, 3 * c, 3 * d, h) for a, b, c, d, h in board]
            self.assertIsNone(parted(board, other))
            for mark in marks_of(cells):
                self.assertEqual(looked(board, mark), looked(other, mark))
            self.assertEqual(word_shares(board), word_shares(other))
            self.assertEqual(likeliest(board), likeliest(other))


if __name__ == "__main__":
    unittest.main()
