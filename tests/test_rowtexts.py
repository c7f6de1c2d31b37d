import inspect
import itertools
import random
import unittest

from spinboard import rowtexts
from spinboard.errors import NoText
from spinboard.rowtexts import read_row, show_row
from tests.helper import ANYTHING, WRONG_PARTS, OwnCase, all_moves, move_by_words, some_row

LEAN_PARTS = ["", " ", "   "]


def read_by_words(text):
    """The row that the text writes, or the number of the first part that writes no move."""
    if set(text) <= {" "}:
        return []
    row = []
    for place, part in enumerate(text.split(";")):
        move = move_by_words(part, 6)
        if move is None:
            return place
        row.append(move)
    return row


class Interface(unittest.TestCase):
    def test_names_and_arguments(self):
        asked = {"show_row": "(row)", "read_row": "(text)"}
        for name, arguments in asked.items():
            self.assertEqual(str(inspect.signature(getattr(rowtexts, name))), arguments, name)


class ShowRow(unittest.TestCase):
    def test_told_ones(self):
        self.assertEqual(show_row([]), "")
        self.assertEqual(show_row([("flip", 0)]), "flip 0")
        self.assertEqual(show_row([("mix", 5)]), "mix 5")
        self.assertEqual(show_row([("turn", 2, 7)]), "turn 2 7")
        self.assertEqual(show_row([("if", 1, 0)]), "if 1 0")
        self.assertEqual(show_row([("pair", 3, 4)]), "pair 3 4")
        self.assertEqual(show_row([("swap", 4, 3)]), "swap 4 3")
        self.assertEqual(show_row([("cross", 2, 0, 1)]), "cross 2 0 1")
        self.assertEqual(show_row([("flip", 0), ("turn", 1, 3)]), "flip 0; turn 1 3")
        self.assertEqual(show_row([("cross", 0, 1, 2), ("mix", 1), ("mix", 1)]), "cross 0 1 2; mix 1; mix 1")

    def test_every_move(self):
        for move in all_moves(6):
            self.assertEqual(show_row([move]), " ".join(map(str, move)))

    def test_the_kind_told_and_the_row_stays(self):
        for many in [0, 1, 7, 200]:
            row = some_row(6, many, 1)
            self.assertIs(type(show_row(row)), str)
            self.assertEqual(show_row(row), show_row(row))
            self.assertEqual(row, some_row(6, many, 1))


class ReadRow(OwnCase):
    def assert_read(self, text, row):
        told = read_row(text)
        self.assertIs(type(told), list)
        self.assertEqual(told, row, text)
        for move in told:
            self.assertIs(type(move), tuple)
            self.assertEqual([type(part) for part in move], [str] + [int] * (len(move) - 1))

    def test_told_ones(self):
        self.assert_read("flip 0", [("flip", 0)])
        self.assert_read("turn 1 7;mix 5", [("turn", 1, 7), ("mix", 5)])
        self.assert_read("  if  1   0  ;  pair 0 5 ; swap 3   2;cross 0 1 2", [
            ("if", 1, 0), ("pair", 0, 5), ("swap", 3, 2), ("cross", 0, 1, 2),
        ])

    def test_every_move_and_rows_of_every_kind(self):
        for move in all_moves(6):
            self.assert_read(show_row([move]), [move])
            self.assert_read(show_row([move, move]), [move, move])
        for cells in range(1, 7):
            for many in [0, 1, 2, 30, 200]:
                row = some_row(cells, many, 2)
                self.assert_read(show_row(row), row)

    def test_no_moves(self):
        self.assert_read("", [])
        for many in [1, 2, 3, 100, 4000]:
            self.assert_read(" " * many, [])

    def test_more_blanks_between_a_move_s_words(self):
        row = read_row("flip 3; mix 0; turn 4 4; if 2 1; pair 0 1; swap 5 0; cross 3 4 5")
        self.assertEqual(len(row), 7)
        for move in row:
            for gaps in itertools.product([" ", "  ", "     "], repeat=len(move) - 1):
                text = move[0] + "".join(gap + str(number) for gap, number in zip(gaps, move[1:]))
                self.assert_read(text, [move])

    def test_any_number_of_blanks_ahead_of_and_behind_a_move(self):
        row = [("flip", 0), ("turn", 1, 2), ("cross", 2, 1, 0)]
        parts = show_row(row).split("; ")
        for around in itertools.product(["", " ", "    "], repeat=6):
            text = ";".join(around[2 * place] + part + around[2 * place + 1] for place, part in enumerate(parts))
            self.assert_read(text, row)

    def test_four_thousand_signs(self):
        self.assert_read(";".join(["mix 3"] * 666) + "    ", [("mix", 3)] * 666)
        self.assert_read(" " * 3994 + "flip 0", [("flip", 0)])
        self.assert_read("if" + " " * 1998 + "5" + " " * 1998 + "4", [("if", 5, 4)])
        self.assert_read("turn 0 1" + " " * 3992, [("turn", 0, 1)])
        row = some_row(6, 400, 3)
        self.assert_read(show_row(row), row)

    def test_the_row_told_is_new(self):
        for text in ["", "   ", "flip 0", "flip 0; mix 1"]:
            self.assert_own(read_row, text)

    def test_a_row_shown_again(self):
        self.assertEqual(show_row(read_row(" swap  0 1;mix 3 ; turn 2 5")), "swap 0 1; mix 3; turn 2 5")
        self.assertEqual(show_row(read_row("   ")), "")


class ReadRefuses(unittest.TestCase):
    def assert_refused(self, text, place):
        with self.assertRaises(NoText) as refused:
            read_row(text)
        self.assertEqual(refused.exception.place, place, text)
        self.assertIs(type(refused.exception.place), int)

    def test_a_wrong_part_by_itself(self):
        for part in WRONG_PARTS:
            for text in [part, " " + part, part + "  "]:
                self.assert_refused(text, 0)

    def test_a_wrong_part_with_right_ones_ahead_and_behind(self):
        for part in WRONG_PARTS + LEAN_PARTS:
            if len(part) < 3000:
                self.assert_refused("flip 0;" + part, 1)
                self.assert_refused(part + ";flip 0", 0)
                self.assert_refused("flip 0;" + part + ";mix 1", 1)
                self.assert_refused("flip 0; turn 1 3 ; cross 0 1 2; " + part, 3)
                self.assert_refused("flip 0; turn 1 3 ; cross 0 1 2; " + part + "; if 0 1", 3)

    def test_the_first_wrong_part_tells(self):
        wrong = ["flip 6", "flop 0", "turn 0 0", "if 1 1", "", "  ", "mix0", "mix"]
        for part, other in itertools.product(wrong, repeat=2):
            self.assert_refused(part + ";" + other, 0)
            self.assert_refused("flip 0; " + part + " ;" + other, 1)
            self.assert_refused("flip 0;mix 1;" + part + ";if 0 1;" + other, 2)
            self.assert_refused(part + ";flip 0;" + other, 0)

    def test_parts_without_signs(self):
        told = {
            ";": 0, ";;": 0, " ;": 0, "; ": 0, " ; ": 0, ";flip 0": 0, " ;flip 0": 0, "flip 0;": 1, "flip 0; ": 1,
            "flip 0;;": 1, "flip 0;;flip 0": 1, "flip 0; ;flip 0": 1, "flip 0; flip 1;": 2, "flip 0; flip 1;   ": 2,
            "flip 0;flip 1;;flip 2": 2, "  ;  ;flip 0": 0, "flip 0 ; mix 0; turn 0 1; ;": 3,
        }
        for text, place in told.items():
            self.assert_refused(text, place)

    def test_four_thousand_signs(self):
        self.assert_refused(";" * 4000, 0)
        self.assert_refused("mix 3;" * 666, 666)
        self.assert_refused("mix 3;" * 666 + "   4", 666)
        self.assert_refused("mix 3;" * 500 + "mix 6" + ";mix 3" * 150, 500)
        self.assert_refused("flip " + "0" * 3995, 0)
        self.assert_refused("f" * 4000, 0)

    def test_what_is_no_text(self):
        things = [b"flip 0", bytearray(b"flip 0"), ["flip 0"], ("flip", 0), [("flip", 0)], ("flip 0",), {"flip 0": 1}]
        for thing in things + ANYTHING:
            if not isinstance(thing, str):
                self.assert_refused(thing, 0)

    def test_a_refused_list_stays(self):
        handed = ["flip 0"]
        self.assert_refused(handed, 0)
        self.assertEqual(handed, ["flip 0"])


class HeldAgainstTheWords(unittest.TestCase):
    SIGNS = [chr(number) for number in range(32, 127) if chr(number) != "%"] + list(" ;0156789") * 8

    def told(self, text):
        try:
            return read_row(text)
        except NoText as refused:
            return refused.place

    def test_each_sign_at_each_place(self):
        for text in ["flip 0", "turn 3 1", "mix 1; if 0 1 ;"]:
            for place in range(len(text) + 1):
                for sign in self.SIGNS[:94]:
                    for other in [text[:place] + sign + text[place:], text[:place] + sign + text[place + 1:]]:
                        self.assertEqual(self.told(other), read_by_words(other), other)

    def test_every_choice_of_words_and_figures(self):
        words = ["flip", "mix", "turn", "if", "pair", "swap", "cross", "look", "1"]
        for many in range(5):
            figures = "0123456789" if many < 3 else "0157"
            for word, *behind in itertools.product(words, *[figures] * many):
                text = " ".join([word, *behind])
                self.assertEqual(self.told(text), read_by_words(text), text)

    def test_texts_that_were_changed_in_some_places(self):
        source = random.Random(4)
        for turn in range(6000):
            signs = list(show_row(some_row(6, source.randrange(5), turn)))
            for _ in range(source.randrange(4)):
                place = source.randrange(len(signs) + 1)
                signs[place:place + source.randrange(2)] = source.choices(self.SIGNS, k=source.randrange(2))
            text = "".join(signs)
            self.assertEqual(self.told(text), read_by_words(text), text)


if __name__ == "__main__":
    unittest.main()
