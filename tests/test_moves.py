import inspect
import itertools
import unittest
from fractions import Fraction

from spinboard import moves
from spinboard.amounts import spun
from spinboard.boards import board_of, start
from spinboard.errors import NoCell, NoMove
from spinboard.moves import back_move, check_move, turned
from tests.helper import (
    GREAT, NO_MOVES, NOT_WHOLE, all_moves, great_board, some_board, told_by_cells, worth_spun, worth_times,
)

NOUGHT = (0, 0, 0, 0, 0)
ONE = (1, 0, 0, 0, 0)
HALF_ROOT = (0, 1, 0, -1, 1)
LESS_HALF_ROOT = (0, -1, 0, 1, 1)
HALF_ROOT_WORTH = [Fraction(0), Fraction(1, 2), Fraction(0), Fraction(-1, 2)]


def mixed_by_words(told, a):
    behind = {}
    for cells in told:
        x = told[cells - {a}]
        y = told[cells | {a}]
        sums = [p - q if a in cells else p + q for p, q in zip(x, y)]
        behind[cells] = worth_times(sums, HALF_ROOT_WORTH)
    return behind


def with_places_changed(cells, one, other):
    """The cells with what they had at the one at the other, and the other way round."""
    behind = set(cells) - {one, other}
    if one in cells:
        behind.add(other)
    if other in cells:
        behind.add(one)
    return frozenset(behind)


def turned_by_words(told, move):
    """The document's words for each kind of move, over sets of cells and fractions."""
    word, a = move[:2]
    if word == "mix":
        return mixed_by_words(told, a)
    behind = {}
    for cells, one in told.items():
        goes_to = cells
        if word == "flip":
            goes_to = cells - {a} if a in cells else cells | {a}
        elif word == "turn":
            one = worth_spun(one, move[2]) if a in cells else one
        elif word == "if" and a in cells:
            goes_to = cells - {move[2]} if move[2] in cells else cells | {move[2]}
        elif word == "pair":
            one = worth_spun(one, 4) if {a, move[2]} <= cells else one
        elif word == "swap":
            goes_to = with_places_changed(cells, a, move[2])
        elif word == "cross" and a in cells:
            goes_to = with_places_changed(cells, move[2], move[3])
        behind[goes_to] = one
    return behind


class Interface(unittest.TestCase):
    def test_names_and_arguments(self):
        asked = {"check_move": "(move, cells)", "turned": "(board, move)", "back_move": "(move)"}
        for name, arguments in asked.items():
            self.assertEqual(str(inspect.signature(getattr(moves, name))), arguments, name)


class ToldTurns(unittest.TestCase):
    W = [(1, 0, 0, 0, 0), (2, 0, 0, 0, 0), (3, 0, 0, 0, 0), (5, 0, 0, 0, 0)]

    def test_flip(self):
        w = self.W
        self.assertEqual(turned(w, ("flip", 0)), [w[1], w[0], w[3], w[2]])
        self.assertEqual(turned(w, ("flip", 1)), [w[2], w[3], w[0], w[1]])

    def test_mix(self):
        self.assertEqual(turned([ONE, NOUGHT], ("mix", 0)), [HALF_ROOT, HALF_ROOT])
        self.assertEqual(turned([NOUGHT, ONE], ("mix", 0)), [HALF_ROOT, LESS_HALF_ROOT])
        self.assertEqual(turned([HALF_ROOT, HALF_ROOT], ("mix", 0)), [ONE, NOUGHT])
        self.assertEqual(turned(start(2, 2), ("mix", 1)), [HALF_ROOT, NOUGHT, LESS_HALF_ROOT, NOUGHT])

    def test_turn(self):
        for k in range(1, 8):
            self.assertEqual(turned([ONE, ONE], ("turn", 0, k)), [ONE, spun(ONE, k)])
        w = self.W
        self.assertEqual(turned(w, ("turn", 1, 1)), [w[0], w[1], (0, 3, 0, 0, 0), (0, 5, 0, 0, 0)])

    def test_if(self):
        w = self.W
        self.assertEqual(turned(w, ("if", 0, 1)), [w[0], w[3], w[2], w[1]])
        self.assertEqual(turned(w, ("if", 1, 0)), [w[0], w[1], w[3], w[2]])

    def test_pair(self):
        w = self.W
        for move in [("pair", 0, 1), ("pair", 1, 0)]:
            self.assertEqual(turned(w, move), [w[0], w[1], w[2], (-5, 0, 0, 0, 0)])

    def test_swap(self):
        w = self.W
        for move in [("swap", 0, 1), ("swap", 1, 0)]:
            self.assertEqual(turned(w, move), [w[0], w[2], w[1], w[3]])

    def test_cross(self):
        w = [(number, 0, 0, 0, 0) for number in range(8)]
        for move in [("cross", 0, 1, 2), ("cross", 0, 2, 1)]:
            self.assertEqual(turned(w, move), [w[0], w[1], w[2], w[5], w[4], w[3], w[6], w[7]])
        for move in [("cross", 2, 0, 1), ("cross", 2, 1, 0)]:
            self.assertEqual(turned(w, move), [w[0], w[1], w[2], w[3], w[4], w[6], w[5], w[7]])


class Turned(unittest.TestCase):
    def test_every_move_at_every_cell_by_the_words(self):
        for cells in range(1, 7):
            board = some_board(cells, 2)
            before = list(board)
            told = told_by_cells(board)
            for move in all_moves(cells):
                behind = turned(board, move)
                self.assertIs(type(behind), list)
                self.assertIsNot(behind, board)
                self.assertEqual(board_of(behind), behind, move)
                self.assertEqual(told_by_cells(behind), turned_by_words(told, move), move)
                self.assertEqual(board, before)

    def test_boards_with_noughts_and_beginnings(self):
        for cells in [1, 2, 3, 4]:
            for board in [some_board(cells, 1), start(cells), start(cells, 2 ** cells - 1)]:
                for move in all_moves(cells):
                    asked = turned_by_words(told_by_cells(board), move)
                    self.assertEqual(told_by_cells(turned(board, move)), asked, move)

    def test_great_numbers(self):
        board = great_board(3)
        for move in all_moves(3):
            asked = turned_by_words(told_by_cells(board), move)
            self.assertEqual(told_by_cells(turned(board, move)), asked, move)

    def test_the_board_told_is_the_asker_s_own(self):
        for cells in [1, 3]:
            board = some_board(cells)
            before = list(board)
            for move in all_moves(cells):
                first = turned(board, move)
                kept = list(first)
                first[0] = "changed"
                first.append("more")
                self.assertEqual(board, before)
                self.assertEqual(turned(board, move), kept)


LENGTHS = {"flip": 1, "mix": 1, "turn": 2, "if": 2, "pair": 2, "swap": 2, "cross": 3}
GOOD = [("flip", 0), ("mix", 1), ("turn", 0, 7), ("if", 0, 1), ("pair", 1, 0), ("swap", 0, 1), ("cross", 0, 1, 2)]


class CheckMove(unittest.TestCase):
    def assert_refused(self, refusal, move, cells):
        before = repr(move)
        with self.assertRaises(refusal):
            check_move(move, cells)
        board = start(cells)
        with self.assertRaises(refusal):
            turned(board, move)
        self.assertEqual((board, repr(move)), (start(cells), before))

    def test_each_move_is_told_again(self):
        for cells in range(1, 7):
            for move in all_moves(cells):
                told = check_move(move, cells)
                self.assertEqual(told, move)
                self.assertIs(type(told), tuple)

    def test_what_is_none_of_the_tuples(self):
        for cells in [1, 2, 3, 6]:
            for thing in NO_MOVES:
                self.assert_refused(NoMove, thing, cells)

    def test_too_few_and_too_many_numbers(self):
        for word, many in LENGTHS.items():
            for other in range(6):
                if other != many:
                    self.assert_refused(NoMove, (word,) + tuple(range(1, other + 1)), 6)
                    self.assert_refused(NoMove, (word,) + (1,) * other, 1)

    def test_what_is_no_whole_number_at_each_place(self):
        for move in GOOD:
            for place in range(1, len(move)):
                for thing in NOT_WHOLE:
                    self.assert_refused(NoMove, move[:place] + (thing,) + move[place + 1:], 3)

    def test_the_k_of_a_turn(self):
        for cells in range(1, 7):
            for k in range(1, 8):
                self.assertEqual(check_move(("turn", cells - 1, k), cells), ("turn", cells - 1, k))
            for k in [0, 8, -1, -7, 9, 16, GREAT]:
                self.assert_refused(NoMove, ("turn", 0, k), cells)

    def test_a_cell_that_the_board_does_not_have(self):
        for cells in range(1, 7):
            for cell in [-1, -2, -cells, -cells - 1, cells, cells + 1, 6, 64, GREAT, -GREAT]:
                self.assert_refused(NoCell, ("flip", cell), cells)
                self.assert_refused(NoCell, ("mix", cell), cells)
                for k in [1, 7]:
                    self.assert_refused(NoCell, ("turn", cell, k), cells)
                for word in ["if", "pair", "swap"]:
                    self.assert_refused(NoCell, (word, cell, 0), cells)
                    self.assert_refused(NoCell, (word, 0, cell), cells)
                for place in range(3):
                    named = [0, 1, 2]
                    named[place] = cell
                    self.assert_refused(NoCell, ("cross", *named), cells)

    def test_a_cell_named_twice(self):
        for cells in range(1, 7):
            for a in range(cells):
                for word in ["if", "pair", "swap"]:
                    self.assert_refused(NoCell, (word, a, a), cells)
                for b in range(cells):
                    for named in [(a, a, b), (a, b, a), (b, a, a)]:
                        self.assert_refused(NoCell, ("cross", *named), cells)

    def test_more_cells_than_the_board_has(self):
        self.assert_refused(NoCell, ("if", 0, 1), 1)
        self.assert_refused(NoCell, ("cross", 0, 1, 2), 2)
        self.assert_refused(NoCell, ("cross", 0, 1, 2), 1)

    def test_a_turn_s_k_may_be_its_cell_or_beyond_the_cells(self):
        self.assertEqual(check_move(("turn", 1, 1), 2), ("turn", 1, 1))
        self.assertEqual(check_move(("turn", 0, 7), 1), ("turn", 0, 7))

    def test_no_move_goes_ahead_of_no_cell(self):
        both = [
            ("turn", 9, 0), ("turn", -1, 8), ("turn", -1, True), ("if", 7, None), ("if", -1, True),
            ("cross", 0, 0, "1"), ("cross", 9, 9, 9.0), ("flip", -1, 0), ("if", 9), ("swap", 0, 0, 0),
            ("cross", 0, 0), ("spin", -1), ("turn", 9), ("pair", False, -1), ("mix", 9, 9),
        ]
        for move in both:
            for cells in range(1, 7):
                self.assert_refused(NoMove, move, cells)

    def test_asked_again_it_tells_the_same(self):
        for _ in range(2):
            self.assertEqual(check_move(("if", 1, 0), 2), ("if", 1, 0))
            self.assert_refused(NoCell, ("if", 1, 0), 1)


class BackMove(unittest.TestCase):
    def test_told_ones(self):
        for k in range(1, 8):
            self.assertEqual(back_move(("turn", 3, k)), ("turn", 3, 8 - k))
        for move in all_moves(6):
            if move[0] != "turn":
                self.assertEqual(back_move(move), move)

    def test_it_is_a_move_of_the_same_kind_and_undoes_it(self):
        for cells in range(1, 7):
            board = some_board(cells)
            for move in all_moves(cells):
                back = back_move(move)
                self.assertEqual(check_move(back, cells), back)
                self.assertEqual(back[0], move[0])
                self.assertEqual(back_move(back), move)
                self.assertEqual(turned(turned(board, move), back), board, move)
                self.assertEqual(turned(turned(board, back), move), board, move)

    def test_no_other_move_of_the_kind_undoes_a_turn(self):
        board = [(3, 1, 0, 0, 0), (5, 0, 2, 0, 1)]
        for j, k in itertools.product(range(1, 8), repeat=2):
            again = turned(turned(board, ("turn", 0, j)), ("turn", 0, k))
            self.assertEqual(again == board, back_move(("turn", 0, j)) == ("turn", 0, k))


if __name__ == "__main__":
    unittest.main()
