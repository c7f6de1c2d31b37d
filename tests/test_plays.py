import inspect
import itertools
import random
import re
import unittest

from spinboard import plays
from spinboard.errors import NoText
from spinboard.marks import is_even, is_mark, show_mark
from spinboard.plays import read_play, show_play
from tests.helper import (
    ANYTHING, WRONG_PARTS, OwnCase, all_moves, even_marks, move_by_words, some_even_marks, some_row, with_looks,
)

# The document's words for a look, of whatever many cells, and for what stands ahead of the first colon.
LOOK = re.compile(r" *look +([+-])([.fsb]{1,6}) *")
HEAD = re.compile(" *([1-6]) *")
SIGNS = [chr(number) for number in range(32, 127) if chr(number) != "%"]


def mark_by_words(ahead, letters):
    flips = sum(2 ** cell for cell, letter in enumerate(letters) if letter in "fb")
    signs = sum(2 ** cell for cell, letter in enumerate(letters) if letter in "sb")
    return ((letters.count("b") + (2 if ahead == "-" else 0)) % 4, flips, signs)


def part_by_words(part, cells):
    found = LOOK.fullmatch(part)
    if found is None:
        return move_by_words(part, cells)
    return ("look", mark_by_words(*found.groups())) if len(found.group(2)) == cells else None


def read_by_words(text):
    """What the text is read to, or the place of the refusal."""
    colon = text.find(":")
    found = HEAD.fullmatch(text[:colon]) if colon >= 0 else None
    if found is None:
        return 0
    cells, rest = int(found.group(1)), text[colon + 1:]
    parts = []
    for place, written in enumerate([] if set(rest) <= {" "} else rest.split(";"), 1):
        part = part_by_words(written, cells)
        parts.append(part)
        if part is None or len([each for each in parts if each[0] == "look"]) > 6:
            return place
    return (cells, parts)


def told(text):
    try:
        return read_play(text)
    except NoText as refused:
        return refused.place


def some_parts(cells, many, looks, seed):
    """So many moves of every kind, and so many looks among them."""
    return with_looks(some_row(cells, many, seed), cells, looks, seed)


class Interface(unittest.TestCase):
    def test_names_and_arguments(self):
        asked = {"read_play": "(text)", "show_play": "(cells, parts)"}
        for name, arguments in asked.items():
            self.assertEqual(str(inspect.signature(getattr(plays, name))), arguments, name)


class ReadPlay(OwnCase):
    def assert_read(self, text, cells, parts):
        play = read_play(text)
        self.assertEqual((type(play), len(play)), (tuple, 2))
        self.assertEqual((type(play[0]), type(play[1])), (int, list))
        self.assertEqual(play, (cells, parts), text)
        for part in play[1]:
            self.assertIs(type(part), tuple)
            if part[0] == "look":
                self.assertEqual(len(part), 2)
                self.assertTrue(is_mark(part[1], cells) and is_even(part[1]))
            else:
                self.assertEqual([type(each) for each in part], [str] + [int] * (len(part) - 1))
        self.assertEqual(read_play(text), play)

    def test_told_ones(self):
        self.assert_read("1:", 1, [])
        self.assert_read("2: mix 0; if 0 1; look +ss", 2, [("mix", 0), ("if", 0, 1), ("look", (0, 0, 3))])
        self.assert_read("1:look -b", 1, [("look", (3, 1, 1))])
        self.assert_read(" 3 :look  -.fs ;turn 2 7", 3, [("look", (2, 2, 4)), ("turn", 2, 7)])
        self.assert_read("6: cross 0 4 5; look +......", 6, [("cross", 0, 4, 5), ("look", (0, 0, 0))])

    def test_no_part(self):
        for cells in range(1, 7):
            for text in [f"{cells}:", f"{cells}: ", f"{cells}:" + " " * 3998, f" {cells}:", f"{cells} :  "]:
                self.assert_read(text, cells, [])

    def test_every_move_of_the_cells(self):
        for cells in range(1, 7):
            for move in all_moves(cells):
                written = " ".join(map(str, move))
                self.assert_read(f"{cells}:{written}", cells, [move])
                self.assert_read(f"{cells}: {written} ; {written}", cells, [move, move])

    def test_every_even_mark_of_the_cells(self):
        for cells in range(1, 7):
            for mark in even_marks(cells) if cells < 4 else some_even_marks(cells, 40, "marks"):
                written = show_mark(mark, cells)
                self.assertEqual(mark_by_words(written[0], written[1:]), mark)
                self.assert_read(f"{cells}:look {written}", cells, [("look", mark)])
                self.assert_read(f"{cells}: mix 0; look {written}", cells, [("mix", 0), ("look", mark)])

    def test_blanks_wherever_they_may_stand(self):
        parts = [("mix", 0), ("look", (0, 0, 3)), ("turn", 1, 2)]
        for blanks in itertools.product(["", "   "], repeat=8):
            text = "{}2{}:{}mix 0{};{}look +ss{};{}turn 1 2{}".format(*blanks)
            self.assert_read(text, 2, parts)
        for gap in [" ", "  ", "      "]:
            self.assert_read(f"2:mix{gap}0;look{gap}+ss;turn{gap}1{gap}2", 2, parts)

    def test_at_most_six_looks(self):
        for cells in range(1, 7):
            for looks in range(7):
                for many in [0, 1, 5, 40]:
                    parts = some_parts(cells, many, looks, "looks")
                    self.assertEqual([part[0] for part in parts].count("look"), looks)
                    self.assert_read(show_play(cells, parts), cells, parts)

    def test_four_thousand_signs(self):
        self.assert_read("6:" + ";".join(["mix 3"] * 666), 6, [("mix", 3)] * 666)
        self.assert_read(" " * 3990 + "1: look +f", 1, [("look", (0, 1, 0))])
        self.assert_read("1:look" + " " * 3992 + "+f", 1, [("look", (0, 1, 0))])
        self.assert_read("1" + " " * 1999 + ":" + " " * 1993 + "flip 0", 1, [("flip", 0)])

    def test_the_list_belongs_to_the_asker(self):
        for text in ["2:", "2: mix 0", "2: mix 0; look +ss"]:
            self.assert_own(lambda asked: read_play(asked)[1], text)


class ReadRefuses(unittest.TestCase):
    def assert_refused(self, text, place):
        with self.assertRaises(NoText) as refused:
            read_play(text)
        self.assertIs(type(refused.exception), NoText)
        self.assertEqual(refused.exception.place, place, text)
        self.assertIs(type(refused.exception.place), int)

    def test_what_is_no_text(self):
        things = [b"1:", bytearray(b"1:"), ["1:"], ("1:",), (1, []), {"1:": 1}, 1, [1, ":"], (2, [("mix", 0)])]
        for thing in things + ANYTHING:
            if not isinstance(thing, str):
                self.assert_refused(thing, 0)

    def test_a_refused_list_stays(self):
        handed = ["1:"]
        self.assert_refused(handed, 0)
        self.assertEqual(handed, ["1:"])

    def test_no_colon(self):
        texts = ["", " ", "1", "6", "1;", "1 flip 0", "flip 0", "look +f", "1;flip 0", "; ;", "2. mix 0", "2; look +ss"]
        for text in texts:
            self.assert_refused(text, 0)

    def test_no_such_figure_alone_ahead_of_the_first_colon(self):
        heads = [
            "", " ", "0", "7", "8", "9", "00", "01", "10", "11", "12", "66", "1 1", "1 2", "-1", "+1", "1.", "1.0", "a",
            "one", "1;", ";1", "1,", "1 flip 0", "flip 0", "mix 0;2", "look +f", "1_", "_1", "(1)", "'1'", "1e0", "0x1",
            "\t1", "1\n", "1\t", "\n1", "\u00a01", "1\u2003", "\u0661", "\u00b2", "\uff11", "\u0967", "True", "1\x00",
            "1 ;", "2 2", "6 6 6", "/", "~", "1" * 3000,
        ]
        for head, rest in itertools.product(heads, ["", " ", "flip 0", "look +f", "flop", ";", "1:", ":1:"]):
            self.assert_refused(head + ":" + rest, 0)
        self.assert_refused(":", 0)
        self.assert_refused("::", 0)
        self.assert_refused(":1:", 0)

    def test_a_second_colon(self):
        self.assert_refused("1::", 1)
        self.assert_refused("1: :", 1)
        self.assert_refused("1:1:", 1)
        self.assert_refused("1:1: flip 0", 1)
        self.assert_refused("1: flip 0:", 1)
        self.assert_refused("1: flip 0; flip 0 :", 2)
        self.assert_refused("1: flip 0; 1: flip 0", 2)

    def test_parts_that_write_nothing_else(self):
        for part in WRONG_PARTS:
            if len(part) < 3000:
                self.assert_refused("6:" + part, 1)
                self.assert_refused("6: " + part + " ", 1)
                self.assert_refused("6:flip 0;" + part, 2)
                self.assert_refused("6: look +......;" + part + ";flip 0", 2)
                self.assert_refused("6:mix 0; turn 1 3 ; look -ffffff; " + part + "; look 0", 4)

    def test_parts_without_signs(self):
        texts = {
            ";": 1, ";;": 1, " ;": 1, "; ": 1, " ; ": 1, ";flip 0": 1, " ;flip 0": 1, "flip 0;": 2, "flip 0; ": 2,
            "flip 0;;": 2, "flip 0;;flip 0": 2, "look +f;": 2, "look +f; ;flip 0": 2, "flip 0;look +f;": 3,
            "flip 0; look +f;   ": 3, "flip 0;look +f;;flip 0": 3, " ; ;flip 0": 1,
        }
        for text, place in texts.items():
            self.assert_refused("1:" + text, place)

    def test_looks_that_are_none(self):
        wrong = [
            "look", "look ", "look+ss", "look+ ss", "look + ss", "look ss", "look +s", "look +sss", "look +", "look -",
            "look +s s", "look ++ss", "look +-ss", "look +SS", "look +xx", "look +s,", "look *ss", "look +ss +ss",
            "look +ss 0", "look 0", "look 0 1", "look 1", "look (0, 0, 3)", "Look +ss", "LOOK +ss", "looks +ss",
            "lo ok +ss", "look look +ss", "+ss", "+ss look", "look\t+ss", "look +ss\n", "look\n+ss", "look +s\u017f",
            "look '+ss'", "look +ss.", "look +....", "look:+ss", "look: +ss", "look +ss:", "look +0", "look +. .",
            "see +ss", "look \uff0bss", "look \u2212ss", "look -s-", "look -", "look +ss/",
        ]
        for part in wrong:
            self.assert_refused("2:" + part, 1)
            self.assert_refused("2: mix 0; look -ff; " + part, 3)
            self.assert_refused("2: look -ff; " + part + "; mix 0; mix 5", 2)

    def test_marks_of_more_or_fewer_cells(self):
        for cells, other in itertools.permutations(range(1, 7), 2):
            for mark in some_even_marks(other, 3, "other"):
                written = show_mark(mark, other)
                self.assert_refused(f"{cells}: look {written}", 1)
                self.assert_refused(f"{cells}: mix 0; look {written}; flip 0", 2)
        self.assert_refused("6: look +.......", 1)

    def test_cells_that_the_board_does_not_have(self):
        for cells in range(1, 7):
            own = list(all_moves(cells))
            for move in all_moves(6):
                written = " ".join(map(str, move))
                if move not in own:
                    self.assert_refused(f"{cells}: {written}", 1)
                    self.assert_refused(f"{cells}: mix 0; {written} ;flip 0", 2)
            for cell in range(cells, 10):
                self.assert_refused(f"{cells}: flip 0; mix 0; flip {cell}", 3)

    def test_the_seventh_look(self):
        self.assert_refused("1:" + ";".join(["look +s"] * 7), 7)
        self.assert_refused("1:" + ";".join(["look +s"] * 8), 7)
        self.assert_refused("1:" + ";".join(["look +s"] * 7) + "; flop", 7)
        self.assert_refused("1:" + ";".join(["look +s"] * 6) + "; flop;look +s", 7)
        self.assert_refused("1:" + ";".join(["look +s", "flip 0"] * 7), 13)
        self.assert_refused("1: mix 0;" + ";".join(["look +s"] * 6) + ";mix 0;look +f;look +b", 9)
        for cells, seed in itertools.product(range(1, 7), range(4)):
            parts = some_parts(cells, 12, 7 + seed % 2, seed)
            looks = [place for place, part in enumerate(parts, 1) if part[0] == "look"]
            self.assert_refused(show_play(cells, parts), looks[6])

    def test_the_first_wrong_part_tells(self):
        wrong = ["flip 2", "flop 0", "turn 0 0", "if 1 1", "", "  ", "mix0", "look +s", "look +sss", "look", "look ss"]
        for part, other in itertools.product(wrong, repeat=2):
            self.assert_refused(f"2: {part};{other}", 1)
            self.assert_refused(f"2:flip 0; {part};{other}", 2)
            self.assert_refused(f"2:flip 0; look +ss;{part};if 0 1;{other}", 3)
            self.assert_refused(f"7:flip 0; {part};{other}", 0)

    def test_four_thousand_signs(self):
        self.assert_refused("6:" + ";" * 3998, 1)
        self.assert_refused("6:" + "mix 3;" * 666, 667)
        self.assert_refused("6:" + "mix 3;" * 500 + "mix 6" + ";mix 3" * 150, 501)
        self.assert_refused("1:look +" + "f" * 3990, 1)
        self.assert_refused("1" * 3999 + ":", 0)
        self.assert_refused(":" * 4000, 0)
        self.assert_refused("1" + ":" * 3999, 1)


class HeldAgainstTheWords(unittest.TestCase):
    def test_each_sign_at_each_place(self):
        for text in ["1:", " 2 : mix 1", "2:look +fs;if 0 1", "1: look -b ;"]:
            for place in range(len(text) + 1):
                for sign in SIGNS:
                    for other in [text[:place] + sign + text[place:], text[:place] + sign + text[place + 1:]]:
                        self.assertEqual(told(other), read_by_words(other), other)

    def test_texts_that_were_changed_in_some_places(self):
        source = random.Random(5)
        for turn in range(6000):
            cells = source.randrange(1, 7)
            parts = some_parts(cells, source.randrange(4), source.randrange(8), turn)
            signs = list(show_play(cells, parts))
            for _ in range(source.randrange(3)):
                place = source.randrange(len(signs) + 1)
                drawn = source.choices(SIGNS + list(" ;:+-.fsb0126") * 8, k=source.randrange(2))
                signs[place:place + source.randrange(2)] = drawn
            text = "".join(signs)
            self.assertEqual(told(text), read_by_words(text), text)


class ShowPlay(unittest.TestCase):
    def test_what_is_read_is_shown_and_read_to_the_same_again(self):
        for cells, looks, many in itertools.product(range(1, 7), range(7), [0, 1, 9]):
            parts = some_parts(cells, many, looks, "show")
            handed = list(parts)
            text = show_play(cells, parts)
            self.assertIs(type(text), str)
            self.assertEqual(read_play(text), (cells, parts))
            self.assertEqual(read_by_words(text), (cells, parts))
            self.assertEqual(show_play(cells, parts), text)
            self.assertEqual(parts, handed)

    def test_every_move_and_every_look(self):
        for cells in range(1, 7):
            looks = [("look", mark) for mark in (even_marks(cells) if cells < 4 else some_even_marks(cells, 40, 1))]
            for part in [*all_moves(cells), *looks]:
                self.assertEqual(read_play(show_play(cells, [part])), (cells, [part]))

    def test_texts_that_were_written_otherwise(self):
        for text in ["1:", "  6 :   ", "2:mix  0;look   -bb", " 3: cross 0  1 2 ;;", "4 : look +.fsb;turn 3 7  "]:
            play = read_by_words(text)
            if isinstance(play, tuple):
                self.assertEqual(read_play(show_play(*read_play(text))), play)

    def test_signs_from_the_blank_on_but_not_the_percent_sign(self):
        for cells in range(1, 7):
            self.assertLessEqual(set(show_play(cells, some_parts(cells, 12, 6, "signs"))), set(SIGNS))


if __name__ == "__main__":
    unittest.main()
