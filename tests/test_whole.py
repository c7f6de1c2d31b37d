"""What is promised over the whole program, held with its parts as they work together."""

import itertools
import random
import unittest

from spinboard.amounts import spun
from spinboard.boards import laid_on, parted, start
from spinboard.desk import ends, tell
from spinboard.errors import Unguarded
from spinboard.guards import answers, mends, wrongs
from spinboard.holders import AmountHolder, SignHolder
from spinboard.images import images, unlike
from spinboard.layers import rebuilt
from spinboard.looks import looked, outcomes
from spinboard.marks import commute, product, show_mark
from spinboard.plays import read_play, show_play
from spinboard.rows import backward, run
from spinboard.rowtexts import read_row, show_row
from spinboard.shares import share_plus, show_share
from spinboard.shorts import shortened
from spinboard.spreads import keepers, spread
from spinboard.sums import sum_share
from spinboard.tables import is_table, parting, reduced
from spinboard.tableturns import borne, moved_mark, moved_rows
from spinboard.words import guarded, mended, unguarded
from tests.helper import (
    FIVE, FOUR, SIX, SIX_TIED, borne_row, great_board, is_reduced_by_words, products_of, row_out_of,
    row_with_odd_turns, some_board, some_even_marks, some_row, some_table, with_looks,
)

SURE, NEVER, HALF = (1, 0, 1), (0, 0, 1), (1, 0, 2)


def boards_of(cells):
    yield some_board(cells, 1)
    yield some_board(cells, 2)
    yield start(cells, 2 ** cells - 1)
    yield spread(some_table(cells, cells, "whole"))
    yield run(start(cells), some_row(cells, 20, "whole"))


class BothWaysOfKeeping(unittest.TestCase):
    def assert_kept_alike(self, by_amounts, by_signs, marks):
        board, rows = by_amounts.told_board(), by_signs.told_rows()
        self.assertTrue(is_table(rows, by_signs.cells) and is_reduced_by_words(rows))
        self.assertEqual(len(rows), by_signs.cells)
        for mark in products_of(rows):
            self.assertEqual(laid_on(board, mark), board)
            self.assertTrue(by_amounts.keeps(mark) and by_signs.keeps(mark))
        self.assertIsNone(parted(spread(rows), board))
        self.assertIsNone(parted(by_signs.told_board(), board))
        self.assertEqual(keepers(board), rows)
        self.assertEqual(by_amounts.told_rows(), rows)
        self.assertIsNone(parting(keepers(board), rows))
        self.assertEqual(by_amounts.chance, by_signs.chance)
        for mark in marks:
            self.assertEqual(by_signs.shares_of(mark), by_amounts.shares_of(mark))
            self.assertEqual(by_signs.shares_of(mark), looked(board, mark))
            self.assertIn(by_signs.shares_of(mark), [(SURE, NEVER), (NEVER, SURE), (HALF, HALF)])

    def test_plays_that_end_in_whatever_way_they_can(self):
        for cells, looks, seed in itertools.product(range(1, 7), [0, 1, 3, 6], range(2)):
            parts = with_looks(borne_row(cells, 24, f"whole {seed}"), cells, looks, f"whole {seed}")
            text = show_play(cells, parts)
            self.assertEqual(read_play(text), (cells, parts))
            by_amounts, by_signs = ends(text), ends(text, True)
            self.assertEqual([each[:2] for each in by_amounts], [each[:2] for each in by_signs])
            self.assertEqual(tell(text), tell(text, True))
            marks = some_even_marks(cells, 4, seed)
            chosen = list(zip(by_amounts, by_signs))[::1 if cells < 4 else 5]
            for (_, part, one), (_, _, other) in chosen:
                self.assertEqual(part, one.chance)
                self.assert_kept_alike(one, other, marks)

    def test_begun_at_any_word_and_held_behind_each_deed(self):
        for cells in range(1, 7):
            source = random.Random(f"deeds {cells}")
            word = source.randrange(2 ** cells)
            one, other = AmountHolder(cells, word), SignHolder(cells, word)
            for part in with_looks(borne_row(cells, 16, "deeds"), cells, 6, "deeds"):
                if part[0] == "look":
                    outs = [out for out in (0, 1) if other.shares_of(part[1])[out] != NEVER]
                    outcome = source.choice(outs)
                    one.settle(part[1], outcome)
                    other.settle(part[1], outcome)
                else:
                    one.take(part)
                    other.take(part)
                self.assert_kept_alike(one, other, some_even_marks(cells, 3, "deeds"))

    def test_200_moves_and_six_looks(self):
        for cells in (2, 6):
            text = show_play(cells, with_looks(borne_row(cells, 200, "long"), cells, 6, "long"))
            by_amounts, by_signs = ends(text), ends(text, True)
            self.assertEqual([each[:2] for each in by_amounts], [each[:2] for each in by_signs])
            self.assert_kept_alike(by_amounts[-1][2], by_signs[-1][2], some_even_marks(cells, 6, "long"))


class TheWayBack(unittest.TestCase):
    def test_the_keepers_go_with_the_moves_that_tables_bear(self):
        for cells in range(1, 7):
            for seed, board in enumerate(boards_of(cells)):
                rows = keepers(board)
                self.assertTrue(is_table(rows, cells) and is_reduced_by_words(rows))
                for mark in products_of(rows):
                    self.assertEqual(laid_on(board, mark), board)
                row = borne_row(cells, 15, seed)
                self.assertEqual(keepers(run(board, row)), reduced(moved_rows(rows, row), cells))

    def test_guarded_boards_are_left_as_they_are_by_the_rows_at_least(self):
        for cells in range(2, 7):
            for many in range(1, cells):
                rows = some_table(cells, many, "back")
                board = guarded(some_board(cells - many, 2), rows, cells)
                kept = products_of(keepers(board))
                for mark in products_of(rows):
                    self.assertIn(mark, kept)


class OddTurnsToo(unittest.TestCase):
    def test_a_look_behind_a_row_is_told_by_sums_of_marks_alone(self):
        for cells, odd in itertools.product(range(1, 7), range(7)):
            row = row_with_odd_turns(cells, 14, odd, "whole")
            word = odd % 2 ** cells
            holder = AmountHolder(cells, word)
            holder.take_row(row)
            for mark in some_even_marks(cells, 3, "whole"):
                part = sum_share(word, row, mark)
                self.assertEqual(holder.shares_of(mark)[0], part)
                if word == 0:
                    text = f"{cells}: {show_row(row)}; look {show_mark(mark, cells)}"
                    asked = [each[1] for each in ends(text) if each[0] == (0,)]
                    self.assertEqual(asked, [] if part == NEVER else [part])
                    self.assertEqual(part != NEVER, f"0 {show_share(part)}" in tell(text).split("\n"))


class RowsThatDoTheSame(unittest.TestCase):
    def test_a_row_and_then_its_backward_row_is_nothing(self):
        for cells in range(1, 7):
            for seed, board in enumerate([*boards_of(cells), great_board(cells)]):
                row = some_row(cells, 30, seed)
                self.assertEqual(run(run(board, row), backward(row)), board)
                self.assertEqual(run(run(board, backward(row)), row), board)
            holder = AmountHolder(cells, 1)
            for many in (1, 200):
                row = some_row(cells, many, "back")
                holder.take_row(row)
                holder.take_row(read_row(show_row(backward(row))))
                self.assertEqual(holder.told_board(), start(cells, 1))

    def test_a_shortened_row_makes_just_what_the_long_one_makes(self):
        for cells in range(1, 7):
            for seed, board in enumerate([*boards_of(cells), great_board(cells)]):
                row = some_row(cells, 40, seed)
                short, steps = shortened(row)
                self.assertLessEqual(len(short), len(row))
                self.assertEqual(run(board, short), run(board, row))

    def test_a_row_made_anew_makes_the_same_spun_by_one_k(self):
        for cells, many in itertools.product(range(1, 7), [0, 3, 60, 200]):
            row = borne_row(cells, many, "anew")
            anew = rebuilt(images(row, cells), cells)
            self.assertLessEqual(len(anew), 4 * cells * cells + 8 * cells)
            self.assertIsNone(borne(anew))
            self.assertIsNone(unlike(row, anew, cells))
            boards = list(boards_of(cells))
            fitting = [k for k in range(8) if all(
                run(board, anew) == [spun(one, k) for one in run(board, row)] for board in boards[:2]
            )]
            self.assertEqual(len(fitting), 1)
            for board in boards:
                self.assertEqual(run(board, anew), [spun(one, fitting[0]) for one in run(board, row)])
            one, other = SignHolder(cells), SignHolder(cells)
            one.take_row(row)
            other.take_row(anew)
            self.assertEqual(one.told_rows(), other.told_rows())

    def test_other_rows_are_parted_by_a_mark(self):
        found = 0
        for cells, seed in itertools.product(range(1, 7), range(8)):
            row, other = borne_row(cells, 10, f"one {seed}"), borne_row(cells, 10, f"other {seed}")
            mark = unlike(row, other, cells)
            if mark is None:
                continue
            found += 1
            self.assertNotEqual(moved_mark(mark, row), moved_mark(mark, other))
            board = some_board(cells, 2)
            fitting = [k for k in range(8) if all(
                run(each, other) == [spun(one, k) for one in run(each, row)] for each in [board, laid_on(board, mark)]
            )]
            self.assertEqual(fitting, [])
        self.assertGreater(found, 20)


class SharesOfLooks(unittest.TestCase):
    def test_they_sum_to_one(self):
        for cells in range(1, 7):
            for seed, board in enumerate(boards_of(cells)):
                for mark in some_even_marks(cells, 4, seed):
                    self.assertEqual(share_plus(*looked(board, mark)), SURE)
            for row, by_signs in [(some_row(cells, 12, "sum"), False), (borne_row(cells, 12, "sum"), True)]:
                total = NEVER
                for outs, part, holder in ends(show_play(cells, with_looks(row, cells, 4, "sum")), by_signs):
                    self.assertNotEqual(part, NEVER)
                    total = share_plus(total, part)
                self.assertEqual(total, SURE)

    def test_a_second_look_says_the_same_and_changes_nothing(self):
        for cells, by_signs in itertools.product(range(1, 7), [False, True]):
            row = borne_row(cells, 12, "second")
            for mark in some_even_marks(cells, 4, "second"):
                once = ends(show_play(cells, row + [("look", mark)]), by_signs)
                twice = ends(show_play(cells, row + [("look", mark), ("look", mark)]), by_signs)
                self.assertEqual([outs + outs for outs, _, _ in once], [outs for outs, _, _ in twice])
                for (_, part, holder), (_, other, second) in zip(once, twice):
                    self.assertEqual((part, holder.told_board()), (other, second.told_board()))
                    self.assertEqual(holder.told_rows(), second.told_rows())

    def test_looks_at_marks_that_commute_may_change_places(self):
        found = 0
        for cells, seed in itertools.product(range(1, 7), range(6)):
            one, other = some_even_marks(cells, 2, f"places {seed}")
            if not commute(one, other):
                continue
            found += 1
            for board in boards_of(cells):
                told = {outs: each for outs, *each in outcomes(board, [one, other])}
                changed = {outs[::-1]: each for outs, *each in outcomes(board, [other, one])}
                self.assertEqual(told, changed)
            for by_signs in (False, True):
                row = borne_row(cells, 10, seed)
                told = ends(show_play(cells, row + [("look", one), ("look", other)]), by_signs)
                changed = ends(show_play(cells, row + [("look", other), ("look", one)]), by_signs)
                by_outs = {outs[::-1]: (part, holder.told_board()) for outs, part, holder in changed}
                self.assertEqual({outs: (part, holder.told_board()) for outs, part, holder in told}, by_outs)
        self.assertGreater(found, 8)


class TablesThatGuard(unittest.TestCase):
    def assert_guards(self, rows, cells, where, seed):
        """Hit at each told cell by moves of that cell alone, and mended, the board is alike to the board ahead."""
        source = random.Random(f"{cells} {seed}")
        own = some_board(cells - len(rows), seed)
        board = guarded(own, rows, cells)
        for cell in range(cells) if where is None else where:
            moves = [("flip", cell), ("mix", cell)] + [("turn", cell, k) for k in range(1, 8)]
            hit = run(board, row_out_of(moves, source.randrange(1, 9), source))
            for outs, part, found in mended(hit, rows, cells, where):
                self.assertIsNone(parted(found, board))
                self.assertIsNone(parted(unguarded(found, rows, cells), own))

    def test_either_it_guards_or_two_wrongs_are_told_that_it_can_t_part(self):
        told = []
        for cells, seed in itertools.product(range(2, 7), range(14)):
            source = random.Random(f"whole {cells} {seed}")
            rows = some_table(cells, source.randrange(1, cells), f"whole {seed}")
            where = source.sample(range(cells), source.randrange(1, 3))
            try:
                mends(rows, cells, where)
            except Unguarded as refused:
                one, other = refused.one, refused.other
                self.assertTrue(one in wrongs(cells, where) and other in wrongs(cells, where))
                self.assertEqual(answers(rows, one), answers(rows, other))
                made = product(one, other)
                self.assertNotIn(made[1:], [mark[1:] for mark in products_of(rows)])
                told.append(False)
            else:
                self.assert_guards(rows, cells, where, seed)
                told.append(True)
        self.assertGreater(told.count(True), 10)
        self.assertGreater(told.count(False), 10)

    def test_known_tables(self):
        cases = [(FIVE, 5, None), (SIX, 6, None), (FOUR, 4, [1]), (FOUR, 4, [2]), (SIX_TIED, 6, [5, 3, 4])]
        for seed, (rows, cells, where) in enumerate(cases):
            self.assert_guards(rows, cells, where, seed)
            self.assert_guards(rows[::-1], cells, where, seed + 1)


if __name__ == "__main__":
    unittest.main()
