import copy
import inspect
import itertools
import unittest

from spinboard import holders
from spinboard.boards import laid_on, parted, start
from spinboard.errors import NeverSo, NoBoard, NoCell, NoMark, NoMove, NotBorne
from spinboard.holders import AmountHolder, Holder, SignHolder
from spinboard.looks import looked, settled
from spinboard.marks import turned_about
from spinboard.moves import turned
from spinboard.rows import backward, run
from spinboard.shares import share, share_times
from spinboard.spreads import keepers, spread
from spinboard.tables import is_table
from tests.helper import (
    ANYTHING, GREAT, NO_MOVES, NOT_WHOLE, Odd, OwnCase, all_moves, borne_moves, borne_row, even_marks,
    is_odd_turn_by_words, is_reduced_by_words, no_marks_of, products_of, some_even_marks, some_row,
)

SURE, NEVER, HALF = (1, 0, 1), (0, 0, 1), (1, 0, 2)
KINDS = [AmountHolder, SignHolder]
NOT_BORNE = [("turn", 0, 1), ("turn", 1, 7), ("turn", 2, 3), ("cross", 0, 1, 2), ("cross", 2, 1, 0)]


def told_of(holder):
    """All that a holder tells of itself."""
    marks = some_even_marks(holder.cells, 6, "told")
    shares = [holder.shares_of(mark) for mark in marks]
    return holder.cells, holder.chance, holder.told_board(), holder.told_rows(), shares


def some_holders(cells, seed):
    """A holder of each kind, with the same moves and the same looks behind it."""
    both = [kind(cells, seed % 2 ** cells) for kind in KINDS]
    for step, mark in enumerate(some_even_marks(cells, 2, f"held {seed}")):
        for holder in both:
            holder.take_row(borne_row(cells, 8, f"held {seed} {step}"))
            holder.settle(mark, 0 if holder.shares_of(mark)[0] != NEVER else 1)
    return both


class HolderCase(OwnCase):
    def assert_refused(self, error, holder, name, *handed):
        """The refusal, which is told, and that the holder stays as it was."""
        before = copy.deepcopy(vars(holder))
        with self.assertRaises(error) as refused:
            getattr(holder, name)(*handed)
        self.assertIs(type(refused.exception), error)
        self.assertEqual(vars(holder), before)
        return refused.exception

    def assert_table(self, rows, cells):
        self.assertIs(type(rows), list)
        self.assertIs(is_table(rows, cells), True)
        self.assertTrue(is_reduced_by_words(rows), rows)

    def assert_same(self, by_amounts, by_signs, marks):
        """Both kinds of holders tell the same, but that the boards are alike and not the same."""
        self.assertEqual(by_signs.cells, by_amounts.cells)
        self.assertEqual(by_signs.chance, by_amounts.chance)
        self.assert_table(by_signs.told_rows(), by_signs.cells)
        self.assertEqual(by_signs.told_rows(), by_amounts.told_rows())
        self.assertIsNone(parted(by_signs.told_board(), by_amounts.told_board()))
        for mark in marks:
            self.assertEqual(by_signs.shares_of(mark), by_amounts.shares_of(mark))
            self.assertIs(by_signs.keeps(mark), by_amounts.keeps(mark))


class Interface(unittest.TestCase):
    def test_names_arguments_and_kinds(self):
        for kind in KINDS:
            self.assertEqual(str(inspect.signature(kind)), "(cells, word=0)")
            self.assertTrue(issubclass(kind, holders.Holder))
            self.assertIsInstance(kind(2), Holder)
        self.assertFalse(issubclass(AmountHolder, SignHolder) or issubclass(SignHolder, AmountHolder))

    def test_methods_and_fields(self):
        asked = {
            "take": "(move)", "take_row": "(row)", "settle": "(mark, outcome)", "shares_of": "(mark)",
            "keeps": "(mark)", "told_board": "()", "told_rows": "()", "twin": "()",
        }
        for kind in KINDS:
            holder = kind(3, 5)
            for name, arguments in asked.items():
                self.assertEqual(str(inspect.signature(getattr(holder, name))), arguments, name)
            self.assertEqual((holder.cells, type(holder.cells)), (3, int))
            self.assertEqual((holder.chance, type(holder.chance)), (SURE, tuple))


class Begun(HolderCase):
    def test_at_every_word_of_one_to_six_cells(self):
        for cells in range(1, 7):
            for word in range(2 ** cells):
                for holder in [kind(cells, word) for kind in KINDS]:
                    self.assertEqual((holder.cells, holder.chance), (cells, SURE))
                    self.assertEqual(holder.told_board(), start(cells, word))
                    signs = [(2 if word // 2 ** cell % 2 else 0, 0, 2 ** cell) for cell in range(cells)]
                    self.assertEqual(holder.told_rows(), signs)
                    for cell in range(cells):
                        has = word // 2 ** cell % 2 == 1
                        self.assertEqual(holder.shares_of((0, 0, 2 ** cell)), (NEVER, SURE) if has else (SURE, NEVER))
                        self.assertIs(holder.keeps((0, 0, 2 ** cell)), not has)
                        self.assertIs(holder.keeps((2, 0, 2 ** cell)), has)
                        self.assertEqual(holder.shares_of((0, 2 ** cell, 0)), (HALF, HALF))
                        self.assertIs(holder.keeps((0, 2 ** cell, 0)), False)

    def test_at_the_word_0_where_it_is_left_out(self):
        for kind, cells in itertools.product(KINDS, range(1, 7)):
            self.assertEqual(kind(cells).told_board(), start(cells, 0))
            self.assertEqual(kind(cells=cells).told_rows(), kind(cells, 0).told_rows())
            self.assertEqual(kind(cells, word=1).told_board(), start(cells, 1))

    def assert_no_board(self, *handed):
        for kind in KINDS:
            with self.assertRaises(NoBoard) as refused:
                kind(*handed)
            self.assertIs(type(refused.exception), NoBoard)

    def test_numbers_of_cells_that_no_board_has(self):
        for cells in [0, -1, -6, 7, 8, 64, GREAT, -GREAT]:
            self.assert_no_board(cells)
            self.assert_no_board(cells, 0)
            self.assert_no_board(cells, 1)

    def test_words_that_the_cells_do_not_have(self):
        for cells in range(1, 7):
            for word in [-1, -2, -(2 ** cells), 2 ** cells, 2 ** cells + 1, 2 ** 7, GREAT, -GREAT]:
                self.assert_no_board(cells, word)

    def test_things_of_every_kind(self):
        for thing in NOT_WHOLE:
            self.assert_no_board(thing)
            self.assert_no_board(thing, 0)
            self.assert_no_board(7, thing)
            for cells in range(1, 7):
                self.assert_no_board(cells, thing)
            for other in [True, None, Odd(), [1], "1"]:
                self.assert_no_board(thing, other)

    def test_holders_share_nothing(self):
        for kind in KINDS:
            first, second = kind(3), kind(3)
            before = told_of(second)
            first.take_row([("mix", 0), ("if", 0, 1), ("flip", 2)])
            first.settle((0, 0, 1), 1)
            self.assertEqual(told_of(second), before)
            self.assertEqual(told_of(kind(3)), before)


class Take(HolderCase):
    def test_every_move_by_an_amount_holder(self):
        for cells in range(1, 7):
            board = run(start(cells, 1), some_row(cells, 10, "take"))
            for move in all_moves(cells):
                holder = AmountHolder(cells, 1)
                holder.take_row(some_row(cells, 10, "take"))
                self.assertIsNone(holder.take(move))
                self.assertEqual(holder.told_board(), turned(board, move))
                self.assertEqual((holder.cells, holder.chance), (cells, SURE))

    def test_every_move_that_tables_bear_by_a_sign_holder(self):
        for cells in range(1, 7):
            row = borne_row(cells, 10, "take")
            board = run(start(cells, 1), row)
            for move in borne_moves(cells)[::1 if cells < 5 else 4]:
                holder = SignHolder(cells, 1)
                holder.take_row(row)
                self.assertIsNone(holder.take(move))
                behind = turned(board, move)
                self.assert_table(holder.told_rows(), cells)
                self.assertEqual(holder.told_rows(), keepers(behind))
                self.assertEqual(holder.told_board(), spread(keepers(behind)))
                self.assertIsNone(parted(holder.told_board(), behind))
                self.assertEqual((holder.cells, holder.chance), (cells, SURE))

    def test_rows_of_none_to_200_moves(self):
        for cells, many in itertools.product(range(1, 7), [0, 1, 2, 13, 200]):
            row = some_row(cells, many, "row")
            holder = AmountHolder(cells, 1)
            self.assertIsNone(holder.take_row(row))
            self.assertEqual(row, some_row(cells, many, "row"))
            self.assertEqual(holder.told_board(), run(start(cells, 1), row))
            row = borne_row(cells, many, "row")
            holder = SignHolder(cells, 1)
            self.assertIsNone(holder.take_row(row))
            self.assertEqual(row, borne_row(cells, many, "row"))
            self.assertEqual(holder.told_rows(), keepers(run(start(cells, 1), row)))

    def test_a_row_is_its_moves_one_by_one(self):
        for kind, cells in itertools.product(KINDS, range(1, 7)):
            row = borne_row(cells, 30, "one by one")
            at_once, one_by_one = kind(cells), kind(cells)
            at_once.take_row(row)
            for move in row:
                one_by_one.take(move)
            self.assertEqual(told_of(at_once), told_of(one_by_one))

    def test_a_row_and_then_its_backward_row_is_nothing(self):
        for cells in range(1, 7):
            for holder in some_holders(cells, 3):
                before = told_of(holder)
                row = borne_row(cells, 40, "back")
                holder.take_row(row)
                holder.take_row(backward(row))
                self.assertEqual(told_of(holder), before)

    def test_a_later_change_of_the_row_shows_nowhere(self):
        for kind in KINDS:
            holder = kind(2)
            row = [("mix", 0), ("if", 0, 1)]
            holder.take_row(row)
            before = told_of(holder)
            row[0] = ("flip", 0)
            row.append(("mix", 1))
            self.assertEqual(told_of(holder), before)


class TakeRefuses(HolderCase):
    def test_what_is_no_move(self):
        for holder in some_holders(3, 1):
            for thing in NO_MOVES:
                self.assert_refused(NoMove, holder, "take", thing)
                self.assert_refused(NoMove, holder, "take_row", [thing])
                self.assert_refused(NoMove, holder, "take_row", [("mix", 0), thing, ("flip", 1)])

    def test_what_is_no_row(self):
        for holder in some_holders(3, 2):
            for thing in ANYTHING + [(("flip", 0),), ("flip", 0), "flip 0", iter([("flip", 0)]), {("flip", 0): 1}]:
                if not isinstance(thing, list) or len(thing) > 0:
                    self.assert_refused(NoMove, holder, "take_row", thing)

    def test_cells_that_the_board_does_not_have_or_that_are_named_twice(self):
        for cells in range(1, 7):
            for holder in some_holders(cells, 1):
                for cell in [-1, -cells, cells, 6, GREAT, -GREAT]:
                    for move in [("flip", cell), ("mix", cell), ("turn", cell, 2), ("turn", cell, 1), ("if", 0, cell),
                                 ("pair", cell, 0), ("swap", 0, cell), ("cross", 0, 1, cell), ("cross", cell, 1, 0)]:
                        self.assert_refused(NoCell, holder, "take", move)
                        self.assert_refused(NoCell, holder, "take_row", [("mix", 0), move])
                for move in [("if", 0, 0), ("pair", 0, 0), ("swap", 0, 0), ("cross", 0, 0, 0), ("cross", 0, 0, 1)]:
                    self.assert_refused(NoCell, holder, "take", move)

    def test_at_each_place_of_a_row_no_move_of_it_is_done(self):
        for cells in [1, 2, 3, 6]:
            for holder in some_holders(cells, 2):
                good = borne_row(cells, 5, "places")
                for place in range(6):
                    for wrong, error in [(("turn", 0, 8), NoMove), (None, NoMove), (("flip", cells), NoCell),
                                         (("swap", 0, 0), NoCell)]:
                        row = good[:place] + [wrong] + good[place:]
                        self.assert_refused(error, holder, "take_row", row)

    def test_the_first_move_to_be_refused_tells(self):
        wrong = [(("turn", 0, 0), NoMove), (Odd(), NoMove), (("flip", -1), NoCell), (("if", 1, 1), NoCell)]
        for (one, error), (other, _) in itertools.permutations(wrong, 2):
            for holder in some_holders(3, 3):
                self.assert_refused(error, holder, "take_row", [one, other])
                self.assert_refused(error, holder, "take_row", [("flip", 0), one, ("mix", 1), other])

    def test_a_holder_goes_on_behind_a_refusal(self):
        for one, other in zip(some_holders(3, 4), some_holders(3, 4)):
            self.assert_refused(NoCell, one, "take_row", [("mix", 0), ("flip", 3)])
            for holder in (one, other):
                holder.take_row([("mix", 1), ("pair", 0, 1)])
            self.assertEqual(told_of(one), told_of(other))


class NotBorneMoves(HolderCase):
    def assert_not_borne(self, place, holder, name, handed):
        refused = self.assert_refused(NotBorne, holder, name, handed)
        self.assertEqual((refused.place, type(refused.place)), (place, int))

    def test_every_single_move(self):
        for cells in range(1, 7):
            holder = some_holders(cells, 5)[1]
            for move in all_moves(cells):
                if move[0] == "cross" or is_odd_turn_by_words(move):
                    self.assert_not_borne(0, holder, "take", move)

    def test_at_each_place_of_a_row(self):
        holder = some_holders(3, 6)[1]
        good = borne_row(3, 6, "not borne")
        for move, place in itertools.product(NOT_BORNE, range(7)):
            self.assert_not_borne(place, holder, "take_row", good[:place] + [move] + good[place:])
            row = good[:place] + [move, ("cross", 0, 1, 2)] + good[place:] + [("turn", 0, 1)]
            self.assert_not_borne(place, holder, "take_row", row)
        row = borne_row(3, 199, "not borne")
        self.assert_not_borne(199, holder, "take_row", row + [("turn", 0, 5)])

    def test_the_first_move_to_be_refused_tells_for_whatever_it_is_refused(self):
        holder = some_holders(3, 7)[1]
        wrong = [(("turn", 0, 9), NoMove), (None, NoMove), (("flip", 3), NoCell), (("cross", 0, 1, 1), NoCell)]
        for move, (other, error) in itertools.product(NOT_BORNE, wrong):
            self.assert_not_borne(0, holder, "take_row", [move, other])
            self.assert_not_borne(1, holder, "take_row", [("mix", 0), move, other])
            self.assert_not_borne(2, holder, "take_row", [("mix", 0), ("mix", 1), move, ("flip", 0), other])
            self.assert_refused(error, holder, "take_row", [other, move])
            self.assert_refused(error, holder, "take_row", [("mix", 0), other, ("mix", 1), move])

    def test_no_move_and_no_cell_go_ahead_of_a_single_move(self):
        for cells in range(1, 7):
            holder = some_holders(cells, 8)[1]
            for move in [("turn", cells, 1), ("turn", -1, 7), ("cross", 0, 0, 1), ("cross", 0, 1, cells)]:
                self.assert_refused(NoCell, holder, "take", move)
            for move in [("turn", 0, 9), ("turn", 0, -1), ("turn", 0, True), ("cross", 0, 1), ("cross", 0, 1, None)]:
                self.assert_refused(NoMove, holder, "take", move)

    def test_amount_holders_take_them(self):
        for move in NOT_BORNE:
            holder = AmountHolder(3, 5)
            holder.take_row([("mix", 0), ("mix", 1), move, ("mix", 2)])
            self.assertEqual(holder.told_board(), run(start(3, 5), [("mix", 0), ("mix", 1), move, ("mix", 2)]))


class Looks(HolderCase):
    def assert_looks(self, holder, board, mark):
        """Shares, what is kept, and what is settled, held against the board that was settled beside the holder."""
        shares = holder.shares_of(mark)
        self.assertEqual((type(shares), len(shares)), (tuple, 2))
        self.assertEqual(shares, looked(board, mark))
        self.assertIs(holder.keeps(mark), laid_on(board, mark) == board)
        for outcome in [0, 1]:
            if shares[outcome] == NEVER:
                self.assert_refused(NeverSo, holder, "settle", mark, outcome)
                continue
            other = holder.twin()
            self.assertIsNone(other.settle(mark, outcome))
            behind = settled(board, mark, outcome)
            self.assertEqual(other.chance, share_times(holder.chance, shares[outcome]))
            self.assertIsNone(parted(other.told_board(), behind))
            self.assertEqual(other.told_rows(), keepers(behind))
            self.assertIs(other.keeps(mark), outcome == 0)
            self.assertEqual(other.shares_of(mark), [(SURE, NEVER), (NEVER, SURE)][outcome])
            # A second look says the same and changes nothing.
            before = told_of(other)
            other.settle(mark, outcome)
            self.assertEqual(told_of(other), before)
            self.assert_refused(NeverSo, other, "settle", mark, 1 - outcome)

    def marks_of(self, cells, seed, rows):
        marks = even_marks(cells) if cells < 3 else some_even_marks(cells, 8, seed)
        made = products_of(rows)
        return marks + made[-2:] + [turned_about(made[-1]), (0, 0, 0), (2, 0, 0)]

    def test_looks_behind_rows_that_tables_bear(self):
        for cells, seed in itertools.product(range(1, 7), range(3)):
            row = borne_row(cells, 15, seed)
            board = run(start(cells, seed % 2), row)
            for kind in KINDS:
                holder = kind(cells, seed % 2)
                holder.take_row(row)
                for mark in self.marks_of(cells, seed, holder.told_rows()):
                    self.assert_looks(holder, board, mark)

    def test_looks_behind_rows_with_odd_turns_and_crosses(self):
        for cells, seed in itertools.product(range(1, 7), range(3)):
            row = some_row(cells, 25, seed)
            holder = AmountHolder(cells, seed % 2)
            holder.take_row(row)
            for mark in self.marks_of(cells, seed, holder.told_rows()):
                self.assert_looks(holder, run(start(cells, seed % 2), row), mark)

    def test_amount_holders_settle_amount_for_amount(self):
        for cells in range(1, 7):
            holder, board = AmountHolder(cells), start(cells)
            for step, mark in enumerate(some_even_marks(cells, 5, "amounts")):
                row = some_row(cells, 6, step)
                holder.take_row(row)
                board = run(board, row)
                outcome = 0 if looked(board, mark)[0] != NEVER else 1
                holder.settle(mark, outcome)
                board = settled(board, mark, outcome)
                self.assertEqual(holder.told_board(), board)

    def test_chances_of_several_looks(self):
        holder = AmountHolder(1)
        holder.take_row([("mix", 0), ("turn", 0, 1), ("mix", 0)])
        self.assertEqual(holder.shares_of((0, 0, 1)), (share(2, 1, 4), share(2, -1, 4)))
        holder.settle((0, 0, 1), 1)
        self.assertEqual(holder.chance, (2, -1, 4))
        holder.settle((0, 1, 0), 0)
        self.assertEqual(holder.chance, (2, -1, 8))
        holder.take_row([("turn", 0, 1)])
        self.assertEqual(holder.chance, (2, -1, 8))
        holder.settle((0, 1, 0), 1)
        self.assertEqual(holder.chance, share_times((2, -1, 8), share(2, -1, 4)))
        for kind in KINDS:
            holder = kind(2, 3)
            for many in range(1, 7):
                holder.settle((0, 0, 1) if many % 2 == 0 else (0, 1, 0), many // 2 % 2)
                self.assertEqual(holder.chance, (1, 0, 2 ** many))

    def test_outcomes_that_can_t_be(self):
        for kind, cells in itertools.product(KINDS, range(1, 7)):
            holder = kind(cells, 1)
            self.assert_refused(NeverSo, holder, "settle", (0, 0, 1), 0)
            self.assert_refused(NeverSo, holder, "settle", (2, 0, 1), 1)
            self.assert_refused(NeverSo, holder, "settle", (0, 0, 0), 1)
            self.assert_refused(NeverSo, holder, "settle", (2, 0, 0), 0)

    def test_no_marks(self):
        for cells in range(1, 7):
            for holder in some_holders(cells, 9):
                before = told_of(holder)
                for thing in no_marks_of(cells):
                    for name, *more in [("shares_of",), ("keeps",), ("settle", 0), ("settle", 1)]:
                        with self.assertRaises(NoMark) as refused:
                            getattr(holder, name)(thing, *more)
                        self.assertIs(type(refused.exception), NoMark)
                self.assertEqual(told_of(holder), before)

    def test_no_mark_goes_ahead_of_never_so(self):
        for kind, word in itertools.product(KINDS, [0, 3]):
            for mark in [(1, 0, 0), (3, 0, 0), (0, 0, 4), [0, 0, 1], (False, 0, 1), (0, False, 1), (0, 0, True)]:
                for outcome in [0, 1]:
                    self.assert_refused(NoMark, kind(2, word), "settle", mark, outcome)


class Told(HolderCase):
    def test_the_board_of_a_sign_holder_is_that_of_its_table(self):
        for cells, seed in itertools.product(range(1, 7), range(4)):
            by_amounts, by_signs = some_holders(cells, seed)
            self.assertEqual(by_signs.told_board(), spread(by_signs.told_rows()))
            self.assertEqual(by_amounts.told_rows(), keepers(by_amounts.told_board()))

    def test_rows_of_boards_that_few_marks_leave_as_they_are(self):
        holder = AmountHolder(2)
        holder.take_row([("mix", 0), ("turn", 0, 1), ("mix", 0), ("if", 0, 1)])
        self.assertEqual(holder.told_rows(), [(0, 0, 3)])
        holder.take_row([("mix", 1), ("turn", 1, 1), ("mix", 0)])
        self.assertEqual(holder.told_rows(), keepers(holder.told_board()))
        for cells in range(1, 7):
            holder = AmountHolder(cells)
            holder.take_row(some_row(cells, 60, "few"))
            rows = holder.told_rows()
            self.assert_table(rows, cells)
            kept = products_of(rows)
            for mark in even_marks(cells) if cells < 4 else some_even_marks(cells, 40, "few"):
                self.assertIs(holder.keeps(mark), mark in kept)

    def test_lists_belong_to_the_asker(self):
        for cells in range(1, 7):
            for holder in some_holders(cells, 10):
                for ask in (holder.told_board, holder.told_rows):
                    self.assert_own(ask)

    def test_no_later_deed_changes_what_was_told(self):
        for holder in some_holders(3, 11):
            board, rows, shares = holder.told_board(), holder.told_rows(), holder.shares_of((0, 0, 1))
            kept = list(board), list(rows), shares
            holder.take_row([("flip", 0), ("mix", 1), ("if", 1, 2), ("turn", 0, 2)])
            holder.settle((0, 1, 0), 0 if holder.shares_of((0, 1, 0))[0] != NEVER else 1)
            self.assertEqual((board, rows, shares), kept)

    def test_asked_again_the_same_is_told_and_nothing_changes(self):
        for cells in range(1, 7):
            for holder in some_holders(cells, 12):
                first = told_of(holder)
                self.assertEqual(told_of(holder), first)


class Twin(HolderCase):
    def deeds(self, cells, seed):
        mark = some_even_marks(cells, 1, f"deeds {seed}")[0]
        return borne_row(cells, 10, f"deeds {seed}"), mark

    def test_it_is_of_the_same_kind_and_has_all_that_the_holder_has(self):
        for cells, seed in itertools.product(range(1, 7), range(3)):
            for holder in some_holders(cells, seed):
                other = holder.twin()
                self.assertIsNot(other, holder)
                self.assertIs(type(other), type(holder))
                self.assertEqual(told_of(other), told_of(holder))
                self.assertEqual(told_of(other.twin()), told_of(holder))

    def test_each_goes_its_own_way_from_then_on(self):
        for cells, seed in itertools.product(range(1, 7), range(3)):
            for holder in some_holders(cells, seed):
                other = holder.twin()
                for one, second in [(holder, other), (other, holder)]:
                    before = told_of(second)
                    row, mark = self.deeds(cells, seed)
                    one.take_row(row)
                    one.settle(mark, 0 if one.shares_of(mark)[0] != NEVER else 1)
                    one.take(("mix", 0))
                    self.assertEqual(told_of(second), before)
                # With the same deeds behind them they are the same again.
                self.assertEqual(told_of(holder), told_of(other))

    def test_what_is_done_to_told_lists_shows_in_no_twin(self):
        for holder in some_holders(3, 13):
            other = holder.twin()
            before = told_of(holder)
            for each in (holder, other):
                each.told_board().clear()
                each.told_rows().clear()
            self.assertEqual(told_of(holder), before)
            self.assertEqual(told_of(other), before)

    def test_a_twin_at_the_beginning(self):
        for kind, cells in itertools.product(KINDS, range(1, 7)):
            for word in [0, 1, 2 ** cells - 1]:
                self.assertEqual(told_of(kind(cells, word).twin()), told_of(kind(cells, word)))


class BothKinds(HolderCase):
    def test_they_tell_the_same(self):
        for cells, seed in itertools.product(range(1, 7), range(5)):
            marks = even_marks(cells) if cells < 3 else some_even_marks(cells, 12, seed)
            by_amounts, by_signs = some_holders(cells, seed)
            self.assert_same(by_amounts, by_signs, marks)

    def test_looks_in_whatever_way_they_come_out(self):
        for cells, seed in itertools.product(range(1, 7), range(2)):
            ways = [(AmountHolder(cells), SignHolder(cells))]
            for step in range(3):
                row = borne_row(cells, 9, f"{seed} {step}")
                mark = some_even_marks(cells, 1, f"{seed} {step}")[0]
                further = []
                for both in ways:
                    for holder in both:
                        holder.take_row(row)
                    self.assert_same(*both, [mark, turned_about(mark)])
                    for outcome in [0, 1]:
                        if both[0].shares_of(mark)[outcome] != NEVER:
                            further.append([holder.twin() for holder in both])
                            for holder in further[-1]:
                                holder.settle(mark, outcome)
                ways = further
            for both in ways:
                self.assert_same(*both, some_even_marks(cells, 3, seed))


if __name__ == "__main__":
    unittest.main()
