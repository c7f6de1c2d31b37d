import inspect
import unittest

from spinboard import rows
from spinboard.boards import heft, start
from spinboard.errors import NoCell, NoMove
from spinboard.moves import turned
from spinboard.rows import backward, run
from tests.helper import ANYTHING, Odd, all_moves, great_board, some_board, some_row

NOUGHT = (0, 0, 0, 0, 0)
ONE = (1, 0, 0, 0, 0)
HALF_ROOT = (0, 1, 0, -1, 1)


class Interface(unittest.TestCase):
    def test_names_and_arguments(self):
        asked = {"run": "(board, row)", "backward": "(row)"}
        for name, arguments in asked.items():
            self.assertEqual(str(inspect.signature(getattr(rows, name))), arguments, name)


class Run(unittest.TestCase):
    def test_told_ones(self):
        self.assertEqual(run(start(2), [("mix", 0), ("if", 0, 1)]), [HALF_ROOT, NOUGHT, NOUGHT, HALF_ROOT])
        self.assertEqual(run(start(2), [("if", 0, 1), ("mix", 0)]), [HALF_ROOT, HALF_ROOT, NOUGHT, NOUGHT])
        self.assertEqual(run(start(1), [("flip", 0), ("turn", 0, 3)]), [NOUGHT, (0, 0, 0, 1, 0)])
        self.assertEqual(run(start(1), [("turn", 0, 3), ("flip", 0)]), [NOUGHT, ONE])
        self.assertEqual(run(start(3, 3), [("cross", 0, 1, 2), ("swap", 0, 1)]), start(3, 6))

    def test_move_by_move(self):
        for cells in range(1, 7):
            board = some_board(cells)
            row = some_row(cells, 30, 1)
            behind = board
            for many, move in enumerate(row):
                self.assertEqual(run(board, row[:many]), behind)
                behind = turned(behind, move)
            self.assertEqual(run(board, row), behind)

    def test_a_row_without_moves_tells_an_equal_board_of_its_own(self):
        for cells in range(1, 7):
            board = some_board(cells)
            told = run(board, [])
            self.assertEqual(told, board)
            self.assertIsNot(told, board)
            told[0] = "changed"
            self.assertEqual(board, some_board(cells))

    def test_what_is_handed_in_stays_and_what_is_told_is_new(self):
        for many in [0, 1, 2, 12]:
            board = some_board(3)
            row = some_row(3, many, 2)
            first = run(board, row)
            kept = list(first)
            first[0] = "changed"
            first.append("more")
            self.assertEqual((board, row), (some_board(3), some_row(3, many, 2)))
            self.assertEqual(run(board, row), kept)
            self.assertEqual((board, row), (some_board(3), some_row(3, many, 2)))

    def test_the_heft_stays(self):
        for cells in range(1, 7):
            board = some_board(cells)
            self.assertEqual(heft(run(board, some_row(cells, 40, 3))), heft(board))


class RunRefuses(unittest.TestCase):
    def assert_refused(self, refusal, cells, row):
        board = some_board(cells)
        handed = list(row)
        with self.assertRaises(refusal):
            run(board, handed)
        self.assertEqual(board, some_board(cells))
        self.assertEqual([id(thing) for thing in handed], [id(thing) for thing in row])

    def test_at_each_place_of_a_row(self):
        for cells in [1, 2, 3, 6]:
            good = some_row(cells, 5, 4)
            for place in range(6):
                self.assert_refused(NoMove, cells, good[:place] + [("turn", 0, 8)] + good[place:])
                self.assert_refused(NoCell, cells, good[:place] + [("flip", cells)] + good[place:])
                self.assert_refused(NoCell, cells, good[:place] + [("swap", 0, 0)] + good[place:])

    def test_the_first_one_tells(self):
        no_moves = [("turn", 0, 0), ["flip", 0], ("flip", True), None, Odd()]
        no_cells = [("flip", -1), ("if", 0, 0), ("mix", 6)]
        for wrong in no_moves:
            for beyond in no_cells:
                self.assert_refused(NoMove, 2, [("flip", 0), wrong, ("mix", 1), beyond])
                self.assert_refused(NoCell, 2, [("flip", 0), beyond, ("mix", 1), wrong])
                self.assert_refused(NoMove, 2, [wrong, beyond])
                self.assert_refused(NoCell, 2, [beyond, wrong])

    def test_things_of_every_kind(self):
        for thing in ANYTHING:
            self.assert_refused(NoMove, 3, [("mix", 0), thing])
            self.assert_refused(NoMove, 3, [thing])


class Backward(unittest.TestCase):
    def test_told_ones(self):
        self.assertEqual(backward([]), [])
        row = [
            ("flip", 0), ("mix", 1), ("turn", 2, 3), ("if", 0, 1), ("pair", 1, 2), ("swap", 2, 0), ("cross", 0, 1, 2),
        ]
        asked = [
            ("cross", 0, 1, 2), ("swap", 2, 0), ("pair", 1, 2), ("if", 0, 1), ("turn", 2, 5), ("mix", 1), ("flip", 0),
        ]
        self.assertEqual(backward(row), asked)
        self.assertEqual(backward([("turn", 0, 1), ("turn", 0, 4)]), [("turn", 0, 4), ("turn", 0, 7)])

    def test_it_is_a_new_list_and_the_row_stays(self):
        for many in [0, 1, 9]:
            row = some_row(4, many, 5)
            first = backward(row)
            kept = list(first)
            self.assertIs(type(first), list)
            self.assertIsNot(first, row)
            first.append("more")
            self.assertEqual(row, some_row(4, many, 5))
            self.assertEqual(backward(row), kept)

    def test_twice_it_is_the_row(self):
        for cells in range(1, 7):
            row = list(all_moves(cells))
            self.assertEqual(backward(backward(row)), row)


class TheBoardComesBack(unittest.TestCase):
    def assert_comes_back(self, board, row):
        before = list(board)
        self.assertEqual(run(run(board, row), backward(row)), before)
        self.assertEqual(run(run(board, backward(row)), row), before)
        self.assertEqual(run(board, row + backward(row)), before)
        self.assertEqual(board, before)

    def test_rows_of_every_kind_of_move(self):
        for cells in range(1, 7):
            for seed in [6, 7]:
                row = some_row(cells, 25, seed)
                self.assert_comes_back(some_board(cells, seed), row)
                self.assert_comes_back(start(cells, seed % 2 ** cells), row)

    def test_two_hundred_moves(self):
        for cells in [1, 6]:
            row = some_row(cells, 200, 8)
            board = some_board(cells)
            self.assertEqual(run(run(board, row), backward(row)), board)

    def test_great_amounts(self):
        self.assert_comes_back(great_board(2), some_row(2, 20, 9))


if __name__ == "__main__":
    unittest.main()
