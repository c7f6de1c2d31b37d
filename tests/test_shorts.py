import copy
import inspect
import itertools
import random
import unittest

from spinboard import shorts
from spinboard.boards import board_of, start
from spinboard.moves import check_move, turned
from spinboard.rows import backward, run
from spinboard.shorts import shortened
from tests.helper import all_moves, great_board, row_out_of, some_board, some_row


def cells_named(move):
    return set(move[1:2]) if move[0] == "turn" else set(move[1:])


def deed(move):
    """What a move does, whatever the order in which it names cells that may change places."""
    if move[0] in ("pair", "swap"):
        return move[0], frozenset(move[1:])
    if move[0] == "cross":
        return move[0], move[1], frozenset(move[2:])
    return move


def puts_for_two(one, other):
    """All that the document's steps put in the place of two neighbouring moves."""
    words = one[0], other[0]
    if words == ("turn", "turn") and one[1] == other[1]:
        both = one[2] + other[2]
        yield [] if both == 8 else [("turn", one[1], both if both < 8 else both - 8)]
    if "turn" not in words and deed(one) == deed(other):
        yield []
    if not cells_named(one) & cells_named(other) and min(cells_named(other)) < min(cells_named(one)):
        yield [other, one]
    if words == ("pair", "turn") and other[1] in one[1:]:
        yield [other, one]
    if words == ("if", "turn") and other[1] == one[1]:
        yield [other, one]


def puts_for_three(one, middle, last):
    for cell in range(6):
        if (one, middle, last) == (("mix", cell), ("flip", cell), ("mix", cell)):
            yield [("turn", cell, 4)]
        if (one, middle, last) == (("mix", cell), ("turn", cell, 4), ("mix", cell)):
            yield [("flip", cell)]


def steps_by_words(row):
    """Every step of the document that fits the row."""
    for place in range(len(row) - 1):
        for put in puts_for_two(*row[place:place + 2]):
            yield (place, row[place:place + 2], put)
    for place in range(len(row) - 2):
        for put in puts_for_three(*row[place:place + 3]):
            yield (place, row[place:place + 3], put)


def close_row(cells, many, seed):
    """A row in which many steps fit, one behind another: few cells, and moves that come again soon."""
    source = random.Random(f"close {cells} {many} {seed}")
    few = row_out_of(all_moves(cells), 4, source) + [("mix", 0), ("flip", 0), ("turn", 0, 4)]
    return [source.choice(few) for _ in range(many)]


def rows_to_shorten(cells):
    for many in [0, 1, 2, 3, 4, 5, 8, 13, 20, 30, 39, 40]:
        for seed in range(4):
            yield some_row(cells, many, seed)
            yield close_row(cells, many, seed)


class Interface(unittest.TestCase):
    def test_names_and_arguments(self):
        self.assertEqual(str(inspect.signature(shorts.shortened)), "(row)")


class ShortCase(unittest.TestCase):
    def assert_steps(self, row):
        """Walk the steps from the long row; tell the short one."""
        handed = list(row)
        told = shortened(row)
        self.assertEqual(row, handed)
        self.assertIs(type(told), tuple)
        short, steps = told
        self.assertIs(type(short), list)
        self.assertIs(type(steps), list)
        now = list(row)
        for step in steps:
            self.assertIs(type(step), tuple)
            place, taken, put = step
            self.assertEqual([type(part) for part in step], [int, list, list])
            self.assertEqual(now[place:place + len(taken)], taken)
            self.assertIn(step, list(steps_by_words(now)))
            now = now[:place] + put + now[place + len(taken):]
        self.assertEqual(now, short)
        self.assertEqual(list(steps_by_words(short)), [])
        self.assertLessEqual(len(short), len(row))
        return short


class Steps(ShortCase):
    def test_nothing_to_do(self):
        self.assertEqual(shortened([]), ([], []))
        for cells in range(1, 7):
            for move in all_moves(cells):
                self.assertEqual(shortened([move]), ([move], []))
        row = [("mix", 0), ("turn", 0, 1), ("mix", 0), ("flip", 0), ("if", 0, 1), ("if", 1, 0), ("turn", 0, 4)]
        self.assertEqual(shortened(row), (row, []))

    def test_told_ones(self):
        asked = [
            ([("mix", 0), ("mix", 0)], []),
            ([("flip", 3), ("flip", 3)], []),
            ([("if", 1, 0), ("if", 1, 0)], []),
            ([("pair", 1, 0), ("pair", 0, 1)], []),
            ([("swap", 1, 2), ("swap", 2, 1)], []),
            ([("cross", 1, 0, 2), ("cross", 1, 2, 0)], []),
            ([("turn", 2, 3), ("turn", 2, 5)], []),
            ([("turn", 2, 4), ("turn", 2, 4)], []),
            ([("turn", 2, 3), ("turn", 2, 4)], [("turn", 2, 7)]),
            ([("turn", 2, 1), ("turn", 2, 1)], [("turn", 2, 2)]),
            ([("turn", 2, 7), ("turn", 2, 7)], [("turn", 2, 6)]),
            ([("turn", 2, 7), ("turn", 2, 2)], [("turn", 2, 1)]),
            ([("mix", 5), ("flip", 5), ("mix", 5)], [("turn", 5, 4)]),
            ([("mix", 5), ("turn", 5, 4), ("mix", 5)], [("flip", 5)]),
            ([("flip", 1), ("mix", 0)], [("mix", 0), ("flip", 1)]),
            ([("cross", 3, 4, 5), ("if", 2, 1)], [("if", 2, 1), ("cross", 3, 4, 5)]),
            ([("pair", 3, 2), ("if", 4, 1)], [("if", 4, 1), ("pair", 3, 2)]),
            ([("pair", 1, 2), ("turn", 1, 1)], [("turn", 1, 1), ("pair", 1, 2)]),
            ([("pair", 1, 2), ("turn", 2, 1)], [("turn", 2, 1), ("pair", 1, 2)]),
            ([("if", 1, 2), ("turn", 1, 1)], [("turn", 1, 1), ("if", 1, 2)]),
        ]
        for row, short in asked:
            step = (0, row, short)
            self.assertEqual(shortened(row), (short, [step]), row)

    def test_what_is_no_step(self):
        rows = [
            [("if", 0, 1), ("if", 1, 0)], [("if", 0, 1), ("if", 0, 2)], [("cross", 0, 1, 2), ("cross", 1, 0, 2)],
            [("pair", 0, 1), ("swap", 0, 1)], [("if", 0, 1), ("turn", 1, 2)], [("swap", 0, 1), ("turn", 0, 2)],
            [("cross", 0, 1, 2), ("turn", 0, 2)], [("turn", 0, 2), ("pair", 0, 1)], [("turn", 0, 2), ("if", 0, 1)],
            [("turn", 0, 2), ("turn", 1, 6)], [("flip", 0), ("flip", 1)], [("mix", 0), ("flip", 0)],
            [("mix", 0), ("turn", 0, 2), ("mix", 0)], [("mix", 0), ("turn", 0, 4), ("mix", 1)],
            [("mix", 0), ("flip", 1), ("mix", 1)], [("flip", 0), ("mix", 0), ("flip", 0)],
            [("turn", 0, 4), ("mix", 0), ("turn", 0, 4)], [("if", 0, 3), ("if", 1, 2)], [("if", 0, 3), ("flip", 2)],
            [("pair", 3, 0), ("flip", 1)], [("flip", 0), ("turn", 0, 1)], [("mix", 0), ("turn", 0, 1)],
            [("turn", 0, 4), ("flip", 0)], [("turn", 0, 1), ("mix", 0)], [("pair", 2, 1), ("flip", 1)],
            [("pair", 2, 1), ("flip", 2)], [("if", 2, 1), ("mix", 2)], [("pair", 0, 1), ("pair", 0, 2)],
            [("swap", 0, 1), ("pair", 0, 1)], [("swap", 0, 2), ("swap", 0, 1)], [("if", 2, 1), ("pair", 2, 1)],
        ]
        for row in rows:
            self.assertEqual(shortened(row), (row, []), row)

    def test_every_two_moves(self):
        for one, other in itertools.product(list(all_moves(4)), repeat=2):
            row = [one, other]
            asked = list(steps_by_words(row))
            short, steps = shortened(row)
            # No second step fits two moves that the first one has put.
            self.assertEqual(steps, asked)
            self.assertEqual(short, asked[0][2] if asked else row)

    def test_every_three_moves_of_two_cells(self):
        moves = [move for move in all_moves(2) if move[0] != "turn" or move[2] in (1, 4, 7)]
        for row in itertools.product(moves, repeat=3):
            self.assert_steps(list(row))

    def test_five_of_the_moves_of_one_cell(self):
        moves = [("mix", 0), ("flip", 0), ("turn", 0, 4)]
        for row in itertools.product(moves, repeat=5):
            self.assert_steps(list(row))

    def test_a_step_opens_one_that_begins_ahead_of_it(self):
        row = [("mix", 0), ("turn", 0, 2), ("turn", 0, 2), ("mix", 0)]
        self.assertEqual(self.assert_steps(row), [("flip", 0)])
        row = [("mix", 0), ("flip", 0), ("mix", 1), ("mix", 1), ("mix", 0)]
        self.assertEqual(self.assert_steps(row), [("turn", 0, 4)])
        row = [("mix", 1), ("turn", 1, 4), ("if", 2, 3), ("mix", 1)]
        self.assertEqual(self.assert_steps(row), [("flip", 1), ("if", 2, 3)])
        row = [("swap", 2, 3), ("mix", 1), ("turn", 1, 5), ("mix", 0), ("mix", 0), ("turn", 1, 3), ("mix", 1)]
        self.assertEqual(self.assert_steps(row + [("swap", 3, 2)]), [])

    def test_rows_of_none_to_forty_moves(self):
        for cells in range(1, 7):
            for row in rows_to_shorten(cells):
                for move in self.assert_steps(row):
                    self.assertEqual(check_move(move, cells), move)

    def test_rows_with_many_changes_of_place(self):
        for moves in [("flip", "mix"), ("mix", "flip")]:
            row = [(moves[place % 2], cell) for place, cell in enumerate(sorted(list(range(6)) * 6, reverse=True))]
            self.assert_steps(row + [("turn", 0, 1)] * 4)
        row = [("pair", 4, 5), ("if", 2, 3)] * 10 + [("turn", cell, 1) for cell in range(5, -1, -1)] * 3
        self.assert_steps(row + [("cross", 0, 1, 2)])

    def test_a_row_and_then_its_backward_row(self):
        for cells in range(1, 7):
            for seed in range(5):
                row = some_row(cells, 20, seed)
                short = self.assert_steps(row + backward(row))
                self.assertEqual(run(some_board(cells, 2), short), some_board(cells, 2))

    def test_forty_times_the_same(self):
        for cells in range(1, 4):
            for move in all_moves(cells):
                self.assertEqual(self.assert_steps([move] * 40), [])
                left = [move] if move[0] != "turn" else [("turn", move[1], 39 * move[2] % 8)]
                self.assertEqual(self.assert_steps([move] * 39), left)


class SameDeed(ShortCase):
    def assert_same_deed(self, row, short, boards):
        for board in boards:
            self.assertEqual(run(board, short), run(board, row), row)

    def test_every_step_of_two_moves_by_itself(self):
        board = some_board(4, 2)
        behind = {move: turned(board, move) for move in all_moves(4)}
        for one, other in itertools.product(behind, repeat=2):
            short, steps = shortened([one, other])
            if steps:
                self.assertEqual(run(board, short), turned(behind[one], other), (one, other))

    def test_the_steps_of_three_moves(self):
        for cell in range(3):
            for middle in [("flip", cell), ("turn", cell, 4)]:
                row = [("mix", cell), middle, ("mix", cell)]
                self.assert_same_deed(row, shortened(row)[0], [some_board(3, 2), great_board(3)])

    def test_both_rows_make_the_same_of_every_beginning(self):
        for cells in range(1, 4):
            for row in itertools.islice(rows_to_shorten(cells), 0, None, 3):
                self.assert_same_deed(row, shortened(row)[0], [start(cells, word) for word in range(2 ** cells)])

    def test_both_rows_make_the_same_of_boards_of_one_to_six_cells(self):
        for cells in range(1, 7):
            for place, row in enumerate(rows_to_shorten(cells)):
                if cells < 5 or place % 5 == 0:
                    self.assert_same_deed(row, shortened(row)[0], [board_of(some_board(cells, place))])

    def test_great_amounts(self):
        row = some_row(3, 40, "great")
        self.assert_same_deed(row, shortened(row)[0], [great_board(3)])

    def test_each_row_on_the_way_makes_the_same(self):
        for cells in range(1, 5):
            board = some_board(cells, 2)
            row = close_row(cells, 24, "way")
            asked = run(board, row)
            now = list(row)
            for place, taken, put in shortened(row)[1]:
                now[place:place + len(taken)] = put
                self.assertEqual(run(board, now), asked)


class Own(ShortCase):
    rows = [[], [("flip", 0)], [("flip", 1), ("mix", 0), ("mix", 0)], close_row(3, 30, "own"), some_row(6, 40, "own")]

    def test_asked_again_it_tells_the_same_again(self):
        for row in self.rows:
            first = shortened(row)
            shortened([("mix", 0), ("flip", 0), ("mix", 0)])
            self.assertEqual(shortened(row), first)
            self.assertEqual(shortened(list(row)), first)

    def test_what_is_told_belongs_to_the_asker(self):
        for row in self.rows:
            handed = list(row)
            short, steps = shortened(row)
            kept = copy.deepcopy((short, steps))
            self.assertIsNot(short, row)
            for place, taken, put in steps:
                taken.append("changed")
                put[:] = ["changed"]
            self.assertEqual(short, kept[0])
            for number, step in enumerate(steps):
                self.assertEqual(step, (kept[1][number][0], kept[1][number][1] + ["changed"], ["changed"]))
            short.append("changed")
            steps.append("changed")
            self.assertEqual(row, handed)
            self.assertEqual(shortened(row), kept)
            row.append(("flip", 0))
            self.assertEqual(short, kept[0] + ["changed"])
            row.pop()

    def test_a_later_change_of_the_row_shows_nowhere(self):
        row = [("flip", 0), ("mix", 0)]
        short, steps = shortened(row)
        row[0] = ("flip", 5)
        self.assertEqual((short, steps), ([("flip", 0), ("mix", 0)], []))


if __name__ == "__main__":
    unittest.main()
