import inspect
import itertools
import unittest

from spinboard import desk
from spinboard.boards import heft, parted, start
from spinboard.desk import ends, tell
from spinboard.errors import NeverSo, NoText, NotBorne
from spinboard.holders import AmountHolder, SignHolder
from spinboard.looks import settled
from spinboard.moves import turned
from spinboard.plays import show_play
from spinboard.shares import share, share_plus
from spinboard.spreads import keepers, spread
from tests.helper import ANYTHING, OwnCase, borne_row, is_odd_turn_by_words, some_even_marks, some_row, with_looks

SURE, NOTHING = (1, 0, 1), (0, 0, 1)
TIED = "2: mix 0; if 0 1; look +s.; look +.s"


def board_by_words(cells, parts, outs):
    """The board at the end of a play whose looks came out so, or None where they can't."""
    board, left = start(cells), list(outs)
    for part in parts:
        try:
            board = settled(board, part[1], left.pop(0)) if part[0] == "look" else turned(board, part)
        except NeverSo:
            return None
    return board


def ends_by_words(cells, parts):
    """Each row of outs tried by itself; the share is what is left of the heft, that was one at the beginning."""
    looks = [part for part in parts if part[0] == "look"]
    found = []
    for outs in itertools.product([0, 1], repeat=len(looks)):
        board = board_by_words(cells, parts, outs)
        if board is not None:
            found.append((outs, heft(board), board))
    return found


def text_by_words(found):
    rows = []
    for outs, part, _ in found:
        figures = "".join(str(out) for out in outs) if outs else "-"
        rows.append(f"{figures} {part[0]} {part[1]} {part[2]}")
    return "\n".join(rows)


class Interface(unittest.TestCase):
    def test_names_and_arguments(self):
        for name in ["ends", "tell"]:
            self.assertEqual(str(inspect.signature(getattr(desk, name))), "(text, by_signs=False)", name)


class EndsCase(OwnCase):
    def assert_ends(self, found, asked, kind, cells):
        self.assertIs(type(found), list)
        self.assertEqual([each[:2] for each in found], [each[:2] for each in asked])
        for (outs, part, holder), (_, _, board) in zip(found, asked):
            self.assertEqual((type(outs), type(part)), (tuple, tuple))
            self.assertIs(type(holder), kind)
            self.assertEqual((holder.cells, holder.chance), (cells, part))
            if kind is AmountHolder:
                self.assertEqual(holder.told_board(), board)
            else:
                self.assertIsNone(parted(holder.told_board(), board))
                self.assertEqual(holder.told_board(), spread(holder.told_rows()))
        # Each holder is one of its own.
        self.assertEqual(len({id(holder) for outs, part, holder in found}), len(found))

    def assert_play(self, cells, parts, borne):
        text = show_play(cells, parts)
        asked = ends_by_words(cells, parts)
        for ask in [(text,), (text, False)]:
            self.assert_ends(ends(*ask), asked, AmountHolder, cells)
            self.assertEqual(tell(*ask), text_by_words(asked))
        if borne:
            self.assert_ends(ends(text, True), asked, SignHolder, cells)
            self.assert_ends(ends(text, by_signs=True), asked, SignHolder, cells)
            self.assertEqual(tell(text, True), text_by_words(asked))
        total = (0, 0, 1)
        for outs, part, _ in asked:
            self.assertNotEqual(part, NOTHING)
            total = share_plus(total, part)
        self.assertEqual(total, SURE)
        return asked


class Ends(EndsCase):
    def test_told_ones(self):
        for by_signs, kind in [(False, AmountHolder), (True, SignHolder)]:
            found = ends(TIED, by_signs)
            self.assertEqual([each[:2] for each in found], [((0, 0), (1, 0, 2)), ((1, 1), (1, 0, 2))])
            self.assertIsNone(parted(found[0][2].told_board(), start(2, 0)))
            self.assertIsNone(parted(found[1][2].told_board(), start(2, 3)))
            self.assertEqual([type(each[2]) for each in found], [kind, kind])
            found = ends("3: flip 1", by_signs)
            self.assertEqual([each[:2] for each in found], [((), SURE)])
            self.assertEqual(found[0][2].told_board(), start(3, 2))
        found = ends("1: mix 0; turn 0 1; mix 0; look +s")
        self.assertEqual([each[:2] for each in found], [((0,), share(2, 1, 4)), ((1,), share(2, -1, 4))])

    def test_no_part(self):
        for cells, by_signs in itertools.product(range(1, 7), [False, True]):
            found = ends(f"{cells}:", by_signs)
            self.assertEqual([each[:2] for each in found], [((), SURE)])
            self.assertEqual(found[0][2].told_board(), start(cells))
        for cells in range(1, 7):
            self.assert_play(cells, [], True)

    def test_none_to_six_looks_among_moves_that_tables_bear(self):
        for cells, looks in itertools.product(range(1, 7), range(7)):
            for seed in range(2 if looks < 4 else 1):
                self.assert_play(cells, with_looks(borne_row(cells, 14, seed), cells, looks, seed), True)

    def test_none_to_six_looks_among_moves_of_every_kind(self):
        for cells, looks in itertools.product(range(1, 7), range(7)):
            self.assert_play(cells, with_looks(some_row(cells, 14, "every"), cells, looks, "every"), False)

    def test_as_many_ends_as_there_can_be(self):
        for looks in range(7):
            parts = [("look", [(0, 1, 0), (0, 0, 1)][number % 2]) for number in range(looks)]
            asked = self.assert_play(1, parts, True)
            self.assertEqual([outs for outs, _, _ in asked], list(itertools.product([0, 1], repeat=looks)))
            self.assertEqual({part for _, part, _ in asked}, {(1, 0, 2 ** looks)})
            parts = [("mix", cell) for cell in range(6)] + [("look", (0, 0, 2 ** cell)) for cell in range(looks)]
            self.assertEqual(len(self.assert_play(6, parts, True)), 2 ** looks)

    def test_looks_that_can_come_out_in_one_way_alone(self):
        for mark, out in [((0, 0, 1), 0), ((2, 0, 1), 1), ((0, 0, 0), 0), ((2, 0, 0), 1)]:
            asked = self.assert_play(2, [("look", mark)] * 6, True)
            self.assertEqual([each[:2] for each in asked], [((out,) * 6, SURE)])
        asked = self.assert_play(1, [("look", (0, 1, 0)), ("look", (2, 1, 0)), ("look", (0, 1, 0))], True)
        self.assertEqual([outs for outs, _, _ in asked], [(0, 1, 0), (1, 0, 1)])

    def test_looks_ahead_of_between_and_behind_the_moves(self):
        row = borne_row(3, 6, "places")
        looks = [("look", mark) for mark in some_even_marks(3, 2, "places")]
        for first, second in itertools.combinations_with_replacement(range(7), 2):
            parts = row[:first] + looks[:1] + row[first:second] + looks[1:] + row[second:]
            self.assert_play(3, parts, True)

    def test_both_kinds_of_holders_tell_the_same(self):
        for cells, seed in itertools.product(range(1, 7), range(3)):
            text = show_play(cells, with_looks(borne_row(cells, 20, seed), cells, 3, f"both {seed}"))
            by_amounts, by_signs = ends(text), ends(text, True)
            self.assertEqual([each[:2] for each in by_amounts], [each[:2] for each in by_signs])
            for (_, _, one), (_, _, other) in zip(by_amounts, by_signs):
                self.assertEqual(one.told_rows(), other.told_rows())
                self.assertEqual(one.chance, other.chance)
            self.assertEqual(tell(text), tell(text, True))

    def test_200_moves(self):
        for cells in [1, 3, 6]:
            parts = with_looks(borne_row(cells, 200, "long"), cells, 3, "long")
            self.assert_play(cells, parts, True)
            self.assert_play(cells, with_looks(some_row(cells, 200, "long"), cells, 2, "long"), False)

    def test_four_thousand_signs(self):
        text = "6:look +f.....;look +.f....;" + "mix 0;turn 1 2;" * 260
        text = text[:-1] + " " * (4000 - len(text) + 1)
        self.assertEqual(len(text), 4000)
        self.assertEqual([each[:2] for each in ends(text, True)], [each[:2] for each in ends(text)])

    def test_blanks_change_nothing(self):
        asked = [each[:2] for each in ends(TIED)]
        for text in ["2:mix 0;if 0 1;look +s.;look +.s", "  2 :  mix  0 ;if  0  1;  look   +s. ;look +.s  "]:
            self.assertEqual([each[:2] for each in ends(text)], asked)
            self.assertEqual([each[:2] for each in ends(text, True)], asked)

    def test_holders_go_their_own_way(self):
        for by_signs in [False, True]:
            found = ends(TIED, by_signs)
            kept = [(holder.told_board(), holder.told_rows(), holder.chance) for _, _, holder in found]
            found[0][2].take_row([("flip", 0), ("mix", 1)])
            found[0][2].settle((0, 0, 2), 1)
            holder = found[1][2]
            self.assertEqual((holder.told_board(), holder.told_rows(), holder.chance), kept[1])
            self.assertEqual([each[:2] for each in found], [each[:2] for each in ends(TIED, by_signs)])
            again = ends(TIED, by_signs)
            self.assertEqual([(each.told_board(), each.told_rows(), each.chance) for _, _, each in again], kept)

    def test_the_list_belongs_to_the_asker(self):
        for by_signs in [False, True]:
            first = ends(TIED, by_signs)
            first.clear()
            self.assertEqual([each[:2] for each in ends(TIED, by_signs)], [((0, 0), (1, 0, 2)), ((1, 1), (1, 0, 2))])

    def test_rows_of_ends_by_amounts_are_the_keepers(self):
        for outs, part, holder in ends("3: mix 0; turn 0 1; cross 0 1 2; if 0 2; look +f.s"):
            self.assertEqual(holder.told_rows(), keepers(holder.told_board()))


class Tell(unittest.TestCase):
    def test_told_ones(self):
        for by_signs in [False, True]:
            self.assertEqual(tell(TIED, by_signs), "00 1 0 2\n11 1 0 2")
            self.assertEqual(tell("2:", by_signs), "- 1 0 1")
            self.assertEqual(tell("2: mix 0; flip 1", by_signs), "- 1 0 1")
            self.assertEqual(tell("1: look +s", by_signs), "0 1 0 1")
            self.assertEqual(tell("1: look -s", by_signs), "1 1 0 1")
            self.assertEqual(tell("1: flip 0; look +s", by_signs), "1 1 0 1")
            self.assertEqual(tell("1: look +f; look +s", by_signs), "00 1 0 4\n01 1 0 4\n10 1 0 4\n11 1 0 4")
            self.assertEqual(tell("1: look +s; look +f", by_signs), "00 1 0 2\n01 1 0 2")
        self.assertEqual(tell("1: mix 0; turn 0 1; mix 0; look +s"), "0 2 1 4\n1 2 -1 4")
        self.assertEqual(tell("1: mix 0; turn 0 3; mix 0; look +s"), "0 2 -1 4\n1 2 1 4")

    def test_no_line_feed_ahead_or_behind(self):
        for by_signs in [False, True]:
            for text in ["1:", TIED, "1: look +f; look +s"]:
                shown = tell(text, by_signs)
                self.assertIs(type(shown), str)
                self.assertEqual(shown.strip(), shown)
                self.assertEqual(len(shown.split("\n")), len(ends(text, by_signs)))
                self.assertEqual(tell(text, by_signs), shown)


class Refusals(unittest.TestCase):
    def assert_refused(self, error, place, text, *by_signs):
        for ask in (ends, tell):
            with self.assertRaises(error) as refused:
                ask(text, *by_signs)
            self.assertIs(type(refused.exception), error)
            self.assertEqual((refused.exception.place, type(refused.exception.place)), (place, int))

    def test_texts_that_write_no_play(self):
        texts = {
            "": 0, "1": 0, "7:": 0, "0:": 0, "mix 0": 0, "1 1:": 0, ":": 0, "1:;": 1, "1: flop": 1, "1: flip 1": 1,
            "2: mix 0; look +s": 2, "2: look +ss; mix 0; turn 0 8": 3, "1: mix 0;": 2, "2: mix 0; if 0 0": 2,
            "1:" + "look +s;" * 6 + "look +f": 7,
        }
        for text, place in texts.items():
            for by_signs in [(), (False,), (True,)]:
                self.assert_refused(NoText, place, text, *by_signs)

    def test_what_is_no_text(self):
        for thing in ANYTHING + [b"1:", ["1:"], (1, [])]:
            for by_signs in [(), (False,), (True,)]:
                if not isinstance(thing, str):
                    self.assert_refused(NoText, 0, thing, *by_signs)

    def test_moves_that_tables_do_not_bear(self):
        self.assert_refused(NotBorne, 1, "1: turn 0 1", True)
        self.assert_refused(NotBorne, 1, "3: cross 0 1 2", True)
        self.assert_refused(NotBorne, 2, "3: mix 0; cross 0 1 2; turn 0 1", True)
        self.assert_refused(NotBorne, 3, "3: look +sss; look -fff; turn 2 7; cross 0 1 2", True)
        self.assert_refused(NotBorne, 4, "3: turn 0 2; look +sss; turn 0 4; turn 2 5; turn 0 6", True)

    def test_at_each_place_among_moves_and_looks(self):
        parts = with_looks(borne_row(3, 8, "refused"), 3, 3, "refused")
        for wrong in [("turn", 0, 1), ("turn", 1, 3), ("turn", 2, 5), ("turn", 0, 7), ("cross", 1, 0, 2)]:
            for place in range(len(parts) + 1):
                text = show_play(3, parts[:place] + [wrong] + parts[place:])
                self.assert_refused(NotBorne, place + 1, text, True)
                self.assert_refused(NotBorne, place + 1, text + "; turn 0 1; cross 0 1 2", True)
                self.assertEqual(len(ends(text)), len(tell(text).split("\n")))

    def test_of_rows_of_every_kind(self):
        for cells, seed in itertools.product(range(1, 7), range(12)):
            parts = with_looks(some_row(cells, 6, seed), cells, 2, seed)
            places = [n for n, part in enumerate(parts, 1) if part[0] == "cross" or is_odd_turn_by_words(part)]
            if places:
                self.assert_refused(NotBorne, places[0], show_play(cells, parts), True)
            else:
                self.assertNotEqual(ends(show_play(cells, parts), True), [])

    def test_no_text_goes_ahead_of_not_borne(self):
        self.assert_refused(NoText, 2, "1: turn 0 1; flop", True)
        self.assert_refused(NoText, 3, "3: cross 0 1 2; mix 0;", True)
        self.assert_refused(NoText, 2, "2: turn 0 1; turn 2 1", True)
        self.assert_refused(NoText, 8, "1: turn 0 1;" + "look +s;" * 6 + "look +f", True)
        self.assert_refused(NoText, 0, "7: turn 0 1", True)

    def test_amount_holders_bear_all(self):
        for text in ["1: turn 0 1", "3: cross 0 1 2", "3: mix 0; cross 0 1 2; turn 0 1; look +f.."]:
            self.assertNotEqual(ends(text), [])
            self.assertNotEqual(ends(text, False), [])


if __name__ == "__main__":
    unittest.main()
