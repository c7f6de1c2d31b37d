"""Marks: tuples (q, f, s) of a spin from 0 to 3 and two words, the flips and the signs."""

from spinboard.errors import NoMark
from spinboard.shares import is_whole

# A sign's place in this text is 1 for a flip and 2 for a sign of its cell, summed.
CELL_SIGNS = ".fsb"


def ones(number):
    many = 0
    rest = number
    while rest != 0:
        # This takes the lowest binary place at 1 away, so the walk is as long as there are ones.
        rest = rest & (rest - 1)
        many = many + 1
    return many


def is_word(thing, cells):
    if not (is_whole(thing) and is_whole(cells)):
        return False
    return thing >= 0 and thing.bit_length() <= cells


def is_mark(thing, cells):
    if not isinstance(thing, tuple) or len(thing) != 3:
        return False
    if not is_whole(thing[0]) or thing[0] < 0 or thing[0] > 3:
        return False
    return is_word(thing[1], cells) and is_word(thing[2], cells)


def is_even(mark):
    return (mark[0] + ones(mark[1] & mark[2])) % 2 == 0


def is_even_mark(thing, cells):
    return is_mark(thing, cells) and is_even(thing)


def commute(one, other):
    return (ones(one[1] & other[2]) + ones(one[2] & other[1])) % 2 == 0


def product(one, other):
    # The one's signs meet words that the other's flips have changed already; each such cell spins by 4, so q by 2.
    met = ones(one[2] & other[1])
    return ((one[0] + other[0] + 2 * met) % 4, one[1] ^ other[1], one[2] ^ other[2])


def turned_about(mark):
    return ((mark[0] + 2) % 4, mark[1], mark[2])


def show_mark(mark, cells):
    first = "+" if mark[0] == ones(mark[1] & mark[2]) % 4 else "-"
    return first + "".join([cell_sign(mark, cell) for cell in range(cells)])


def cell_sign(mark, cell):
    flip = (mark[1] >> cell) & 1
    sign = (mark[2] >> cell) & 1
    return CELL_SIGNS[flip + 2 * sign]


def read_mark(text):
    if not isinstance(text, str) or len(text) < 2 or len(text) > 7:
        raise NoMark("a mark is written as a text of two to seven signs")
    if text[0] not in ("+", "-"):
        raise NoMark("a written mark begins with + or -")
    flips = 0
    signs = 0
    for cell, sign in enumerate(text[1:]):
        found = CELL_SIGNS.find(sign)
        if found < 0:
            raise NoMark("a cell of a mark is written as one of . f s b")
        flips = flips | ((found & 1) << cell)
        signs = signs | ((found >> 1) << cell)
    about = 2 if text[0] == "-" else 0
    return (((ones(flips & signs) + about) % 4, flips, signs), len(text) - 1)
