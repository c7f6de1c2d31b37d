import inspect
import itertools
import unittest

from spinboard import marks
from spinboard.amounts import spun
from spinboard.boards import laid_on
from spinboard.errors import NoMark
from spinboard.marks import commute, is_even, is_mark, ones, product, read_mark, show_mark, turned_about
from tests.helper import ANYTHING, GREAT, NOT_WHOLE, all_marks, some_board, some_marks

# On these boards no two marks do the same: their amounts are unlike ones, none of which is another one spun.
PLAIN_BOARDS = {cells: [(3 * word + 7, 1, 0, 0, 0) for word in range(2 ** cells)] for cells in range(1, 7)}


def mark_pairs():
    """Of one and two cells all pairs of marks, of more cells some of them: with the number of their cells."""
    for cells in [1, 2]:
        for one, other in itertools.product(all_marks(cells), repeat=2):
            yield cells, one, other
    for cells in [3, 4, 5, 6]:
        for one, other in zip(some_marks(cells, 120, 1), some_marks(cells, 120, 2)):
            yield cells, one, other


def spun_board(board, k):
    return [spun(one, k) for one in board]


class Interface(unittest.TestCase):
    def test_names_and_arguments(self):
        asked = {
            "ones": "(number)", "is_mark": "(thing, cells)", "is_even": "(mark)", "commute": "(one, other)",
            "product": "(one, other)", "turned_about": "(mark)", "show_mark": "(mark, cells)", "read_mark": "(text)",
        }
        for name, arguments in asked.items():
            self.assertEqual(str(inspect.signature(getattr(marks, name))), arguments, name)


class Ones(unittest.TestCase):
    def test_small_numbers(self):
        self.assertEqual([ones(number) for number in range(9)], [0, 1, 1, 2, 1, 2, 2, 3, 1])
        for number in range(3000):
            self.assertEqual(ones(number), bin(number).count("1"))

    def test_up_to_a_thousand_figures(self):
        for number in [GREAT, 10 ** 999, 10 ** 1000 - 1, 7 ** 1100, 2 ** 64 - 1, 2 ** 64, 2 ** 3321]:
            self.assertEqual(ones(number), bin(number).count("1"))
        self.assertEqual(ones(2 ** 3321 - 1), 3321)
        self.assertEqual(ones(2 ** 3321), 1)

    def test_it_tells_a_whole_number(self):
        for number in [0, 1, 255, GREAT]:
            self.assertIs(type(ones(number)), int)


class IsMark(unittest.TestCase):
    def test_just_the_parts_told_are_marks_of_one_to_six_cells(self):
        for cells in range(1, 7):
            words = range(-1, 2 ** cells + 2)
            for q, f, s in itertools.product(range(-2, 7), words, words):
                asked = q in (0, 1, 2, 3) and 0 <= f < 2 ** cells and 0 <= s < 2 ** cells
                self.assertIs(is_mark((q, f, s), cells), asked, (q, f, s, cells))

    def test_great_parts(self):
        for cells in range(1, 7):
            for great in [GREAT, -GREAT, 4 * GREAT, 2 ** 64, 2 ** cells * 4]:
                for place in range(3):
                    parts = [0, 0, 0]
                    parts[place] = great
                    self.assertIs(is_mark(tuple(parts), cells), False)

    def test_a_word_of_more_cells_is_none_of_fewer(self):
        for cells in range(1, 7):
            self.assertIs(is_mark((3, 2 ** cells - 1, 2 ** cells - 1), cells), True)
            self.assertIs(is_mark((3, 2 ** cells, 0), cells), False)
            self.assertIs(is_mark((3, 0, 2 ** cells), cells), False)

    def test_parts_of_other_kinds(self):
        for cells in range(1, 7):
            for thing in NOT_WHOLE:
                for place in range(3):
                    parts = [1, 1, 1]
                    parts[place] = thing
                    self.assertIs(is_mark(tuple(parts), cells), False)

    def test_too_short_too_long_and_no_tuple(self):
        things = [
            (), (0,), (0, 0), (1, 1), (0, 0, 0, 0), (1, 1, 1, 1), [0, 0, 0], [1, 1, 1], ((0, 0, 0),), [(0, 0, 0)],
            "000", "+.", {0: 0, 1: 0, 2: 0}, {0, 1, 2}, range(3), b"\x00\x00\x00", iter((0, 0, 0)),
        ]
        for thing in things + ANYTHING:
            for cells in range(1, 7):
                self.assertIs(is_mark(thing, cells), False)

    def test_cells_that_are_no_number_have_no_mark(self):
        for cells in NOT_WHOLE + [-1, -GREAT]:
            self.assertIs(is_mark((0, 0, 0), cells), False)

    def test_what_is_handed_in_stays(self):
        handed = [0, 0, 0]
        self.assertIs(is_mark(handed, 2), False)
        self.assertEqual(handed, [0, 0, 0])


class IsEven(unittest.TestCase):
    def test_told_ones(self):
        for mark in [(0, 0, 0), (2, 0, 0), (0, 1, 0), (0, 0, 1), (1, 1, 1), (3, 1, 1), (0, 3, 3), (2, 5, 2), (1, 6, 4)]:
            self.assertIs(is_even(mark), True, mark)
        for mark in [(1, 0, 0), (3, 0, 0), (1, 1, 0), (3, 0, 1), (0, 1, 1), (2, 1, 1), (1, 3, 3), (3, 5, 2), (2, 6, 4)]:
            self.assertIs(is_even(mark), False, mark)

    def test_even_ones_laid_on_twice_do_nothing_and_others_turn_about(self):
        for cells in [1, 2, 3]:
            for mark in all_marks(cells):
                self.assert_twice(mark, PLAIN_BOARDS[cells])
        for cells in [4, 5, 6]:
            for mark in some_marks(cells, 60, 3):
                self.assert_twice(mark, PLAIN_BOARDS[cells])

    def assert_twice(self, mark, board):
        twice = laid_on(laid_on(board, mark), mark)
        self.assertEqual(twice, board if is_even(mark) else spun_board(board, 4))


class Commute(unittest.TestCase):
    def test_told_ones(self):
        self.assertIs(commute((0, 1, 0), (0, 0, 1)), False)
        self.assertIs(commute((0, 0, 1), (0, 1, 0)), False)
        self.assertIs(commute((0, 1, 0), (0, 0, 2)), True)
        self.assertIs(commute((0, 3, 0), (0, 0, 3)), True)
        self.assertIs(commute((1, 1, 1), (0, 1, 0)), False)
        self.assertIs(commute((1, 1, 1), (3, 1, 1)), True)
        self.assertIs(commute((0, 0, 0), (3, 5, 6)), True)

    def test_just_where_both_products_are_the_same(self):
        for cells, one, other in mark_pairs():
            same = product(one, other) == product(other, one)
            self.assertIs(commute(one, other), same, (one, other))
            self.assertIs(commute(other, one), same, (one, other))

    def test_just_where_the_order_does_not_matter_to_a_board(self):
        for cells, one, other in mark_pairs():
            board = PLAIN_BOARDS[cells]
            same = laid_on(laid_on(board, one), other) == laid_on(laid_on(board, other), one)
            self.assertIs(commute(one, other), same, (one, other))


class Product(unittest.TestCase):
    def test_told_ones(self):
        self.assertEqual(product((0, 1, 0), (0, 0, 1)), (0, 1, 1))
        self.assertEqual(product((0, 0, 1), (0, 1, 0)), (2, 1, 1))
        self.assertEqual(product((3, 1, 2), (2, 1, 2)), (1, 0, 0))
        self.assertEqual(product((1, 1, 1), (1, 1, 1)), (0, 0, 0))
        self.assertEqual(product((0, 0, 3), (0, 3, 0)), (0, 3, 3))
        self.assertEqual(product((1, 5, 6), (3, 6, 3)), (0, 3, 5))
        self.assertEqual(product((1, 5, 2), (3, 6, 3)), (2, 3, 1))

    def test_it_does_what_the_other_and_then_the_one_do(self):
        for cells, one, other in mark_pairs():
            told = product(one, other)
            self.assertIs(is_mark(told, cells), True)
            board = PLAIN_BOARDS[cells]
            self.assertEqual(laid_on(board, told), laid_on(laid_on(board, other), one), (one, other))

    def test_on_boards_with_halvings_and_noughts(self):
        for cells in range(1, 7):
            board = some_board(cells)
            for one, other in zip(some_marks(cells, 20, 4), some_marks(cells, 20, 5)):
                self.assertEqual(laid_on(board, product(one, other)), laid_on(laid_on(board, other), one))

    def test_three_marks_either_way(self):
        some = some_marks(6, 30, 6)
        for one, other, third in zip(some, some[1:], some[2:]):
            self.assertEqual(product(product(one, other), third), product(one, product(other, third)))


class TurnedAbout(unittest.TestCase):
    def test_each_q(self):
        self.assertEqual([turned_about((q, 5, 6)) for q in range(4)], [(2, 5, 6), (3, 5, 6), (0, 5, 6), (1, 5, 6)])

    def test_it_spins_by_4_more(self):
        for cells in range(1, 7):
            board = some_board(cells)
            for mark in some_marks(cells, 20, 7):
                told = turned_about(mark)
                self.assertIs(is_mark(told, cells), True)
                self.assertEqual(laid_on(board, told), spun_board(laid_on(board, mark), 4))
                self.assertIs(is_even(told), is_even(mark))
                self.assertEqual(turned_about(told), mark)


def all_texts(cells):
    return ["".join(signs) for signs in itertools.product("+-", *[".fsb"] * cells)]


class ShowAndRead(unittest.TestCase):
    TOLD = {
        "+.": (0, 0, 0), "-.": (2, 0, 0), "+f": (0, 1, 0), "-f": (2, 1, 0), "+s": (0, 0, 1), "-s": (2, 0, 1),
        "+b": (1, 1, 1), "-b": (3, 1, 1), "-.fs": (2, 2, 4), "+bb": (2, 3, 3), "-bb": (0, 3, 3), "+bbb": (3, 7, 7),
        "-bbb": (1, 7, 7), "+bbbb": (0, 15, 15), "-bbbb": (2, 15, 15), "+bbbbb": (1, 31, 31), "-bbbbb": (3, 31, 31),
        "+bbbbbb": (2, 63, 63), "-bbbbbb": (0, 63, 63), "+f.....": (0, 1, 0), "+.....s": (0, 0, 32),
        "-fsb.sf": (3, 37, 22), "+.b": (1, 2, 2),
    }

    def test_told_ones(self):
        for text, mark in self.TOLD.items():
            self.assertEqual(show_mark(mark, len(text) - 1), text)
            self.assertEqual(read_mark(text), (mark, len(text) - 1))

    def test_every_text_of_one_to_six_cells(self):
        for cells in range(1, 7):
            for text in all_texts(cells):
                mark, many = read_mark(text)
                self.assertEqual(many, cells)
                self.assertTrue(is_mark(mark, cells) and is_even(mark), text)
                for cell, sign in enumerate(text[1:]):
                    has = (mark[1] // 2 ** cell % 2 == 1, mark[2] // 2 ** cell % 2 == 1)
                    asked = {".": (False, False), "f": (True, False), "s": (False, True), "b": (True, True)}
                    self.assertEqual(has, asked[sign], text)
                self.assertEqual(mark[0], (text.count("b") + 2 * text.count("-")) % 4, text)
                self.assertEqual(show_mark(mark, cells), text)

    def test_every_even_mark_of_one_to_five_cells(self):
        for cells in range(1, 6):
            even = [mark for mark in all_marks(cells) if is_even(mark)]
            texts = [show_mark(mark, cells) for mark in even]
            self.assertEqual(sorted(texts), sorted(all_texts(cells)))
            self.assertEqual([read_mark(text) for text in texts], [(mark, cells) for mark in even])

    def test_the_kinds_told(self):
        told = read_mark("+fb")
        self.assertEqual([type(told), type(told[0]), type(told[1])], [tuple, tuple, int])
        self.assertEqual([type(part) for part in told[0]], [int] * 3)
        self.assertIs(type(show_mark((0, 1, 0), 3)), str)


class ReadRefuses(unittest.TestCase):
    def assert_refused(self, thing):
        with self.assertRaises(NoMark):
            read_mark(thing)

    def test_no_cell_seven_cells_and_the_empty_text(self):
        for text in ["", "+", "-", "+.......", "-fsbfsb.", "+bbbbbbb", "+" + "." * 3999, "-" + "f" * 64]:
            self.assert_refused(text)

    def test_a_wrong_sign_at_each_place(self):
        others = [chr(number) for number in range(128)] + ["\u00e9", "\u2212", "\uff0b", "\U0001d41b", "\ud800"]
        for text in ["+.", "-b", "+fs", "-.fsb.f"]:
            for place in range(len(text)):
                right = "+-" if place == 0 else ".fsb"
                for sign in others:
                    if sign not in right:
                        self.assert_refused(text[:place] + sign + text[place + 1:])

    def test_a_missing_or_additional_sign(self):
        for text in [".", "f", "fs", "b", "bbbbbb", "fsb.fsb", "++f", "+-f", "--.", "+f+", "+f-", "f+", "+ f", "+f s"]:
            self.assert_refused(text)
        for text in ["+f", "-.fs", "+bbbbbb"]:
            for more in [" ", "\n", "\t", "\x00", ";", "\r", "\u00a0"]:
                self.assert_refused(text + more)
                self.assert_refused(more + text)

    def test_great_letters(self):
        for text in ["+F", "+S", "-B", "+fS"]:
            self.assert_refused(text)

    def test_what_is_no_text(self):
        things = [b"+f", bytearray(b"+f"), ["+", "f"], ("+", "f"), ["+f"], (0, 1, 0), ((0, 1, 0), 1), {"+": "f"}, 7]
        for thing in things + ANYTHING:
            self.assert_refused(thing)

    def test_a_refused_list_stays(self):
        handed = ["+", "f"]
        self.assert_refused(handed)
        self.assertEqual(handed, ["+", "f"])


class AskedAgain(unittest.TestCase):
    def test_the_same_is_told_again(self):
        for _ in range(2):
            self.assertEqual(product((1, 2, 3), (2, 3, 1)), (3, 1, 2))
            self.assertEqual(read_mark("-.fs"), ((2, 2, 4), 3))
            self.assertEqual(show_mark((2, 2, 4), 3), "-.fs")
            self.assertEqual(turned_about((3, 1, 0)), (1, 1, 0))
            self.assertEqual(ones(11), 3)


if __name__ == "__main__":
    unittest.main()
