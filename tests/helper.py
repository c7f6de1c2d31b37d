"""What several tests need: things of every kind, numbers to try, and boards told by sets of cells and fractions."""

import copy
import itertools
import random
import re
import unittest
from fractions import Fraction

from spinboard.amounts import amount
from spinboard.marks import commute, is_even, is_mark, product, read_mark


class Odd:
    """A thing that answers no question about itself."""

    def __eq__(self, other):
        raise RuntimeError("not to be compared")

    def __bool__(self):
        raise RuntimeError("neither true nor false")

    def __len__(self):
        raise RuntimeError("not to be counted")

    def __index__(self):
        return 1


OTHER_KINDS = [
    True, False, None, "", "1", "12345", b"1", 1.0, 0.5, float("nan"), 1j, [], [1], (), (1,),
    {}, {1: 1}, set(), frozenset([1]), range(3), int, Odd(), Odd, len,
]

NOT_WHOLE = OTHER_KINDS + [(0, 0, 1)]

RING = []
RING.append(RING)

GREAT = 10 ** 999 + 7

# None of these is a mark, a mark's text, a list of amounts that make a board, or a move.
ANYTHING = OTHER_KINDS + [
    0, 1, -1, 2, 64, GREAT, -GREAT, RING, (RING, RING, RING), [None] * 4, [Odd(), Odd()], (Odd(), Odd(), Odd()),
    (None, None), ("flip",), ([], []), ({}, 0), bytearray(2), iter([]), object(), ValueError("flip"), "flip", Ellipsis,
]

NO_MOVES = ANYTHING + [
    (0, 0, 1), ["flip", 0], ["turn", 0, 1], ["if", 0, 1], ["cross", 0, 1, 2], "flip 0", b"flip", ("flip 0",),
    ("Flip", 0), ("FLIP", 0), ("flip ", 0), ("", 0), ("", 0, 1), ("not", 0), ("look", 0), ("turns", 0, 1), ("i", 0, 1),
    (b"flip", 0), (None, 0), (0, "flip"), (0, 0), (["flip"], 0), ({"flip": 1}, 0), (Odd(), 0), (("flip", 0),),
    (("flip",), 0), {"flip": 0}, [("flip", 0)], ("flip", (0,)), ("if", (0, 1)), ("flip", 0, None), iter(("flip", 0)),
    ("turn", 0, 0), ("turn", 0, 8), ("turn", 0, -1), ("turn", 0, 9), ("turn", 0, GREAT), ("turn", 0, -GREAT),
    ("turn", 0, True), ("turn", 0, None), ("turn", 0, "1"), ("turn", 0, 1.0), ("flip", 0, 1), ("mix", 0, 1),
]

NO_MARKS = [
    [0, 0, 1], [0, 1, 0], (0, 1), (0, 0, 1, 0), (4, 0, 1), (-1, 0, 1), (-2, 0, 1), (0, -1, 0), (0, 0, -1), (6, 1, 0),
    (0, GREAT, 0), (0, 0, GREAT), (GREAT, 0, 1), "+f", ("+f", 1), ((0, 1, 0),), [(0, 1, 0)], (0, 1.0, 0), (0.0, 0, 1),
    (True, 1, 1), (False, 0, 1), (0, True, 0), (0, 0, True), (0, False, 1), (2, 0, False), ("0", 0, 1), (0, None, 1),
    {0: 0, 1: 0, 2: 1}, (0, 0, Odd()), (Odd(), 0, 1), (0, [], 0), ([0], 1, 0), (0, (1,), 0),
]


# Each of these would be a table of three cells, were it not for one thing.
NO_TABLES = [
    # An odd mark.
    [(1, 0, 1)], [(0, 1, 1)], [(3, 1, 0)], [(0, 0, 2), (0, 1, 1)], [(1, 0, 1), (0, 0, 2)], [(0, 0, 1), (3, 0, 2)],
    # Two that don't commute.
    [(0, 1, 0), (0, 0, 1)], [(0, 0, 1), (0, 0, 2), (0, 1, 0)], [(1, 1, 1), (0, 1, 0)], [(0, 3, 0), (0, 0, 1)],
    [(0, 1, 2), (0, 0, 4), (0, 2, 0)],
    # A product with f and s both 0.
    [(0, 0, 0)], [(2, 0, 0)], [(0, 0, 1), (0, 0, 1)], [(0, 0, 1), (2, 0, 1)], [(0, 0, 1), (0, 0, 0)],
    [(0, 0, 1), (0, 0, 2), (0, 0, 3)], [(0, 0, 1), (0, 0, 2), (2, 0, 3)], [(0, 3, 0), (0, 0, 3), (2, 3, 3)],
    [(0, 3, 0), (0, 0, 3), (0, 3, 3)], [(2, 0, 0), (0, 0, 1), (0, 0, 2)], [(0, 0, 3), (0, 0, 6), (0, 0, 5)],
    # More than n marks.
    [(0, 0, 1), (0, 0, 2), (0, 0, 4), (0, 0, 7)], [(0, 0, 1), (0, 0, 2), (0, 0, 4), (0, 0, 0)],
    [(0, 0, 1), (0, 0, 2), (0, 0, 4), (0, 1, 0)], [(0, 0, word) for word in range(1, 8)] + [(2, 0, 1)] * 5,
    # Marks of more cells.
    [(0, 0, 8)], [(0, 8, 0)], [(0, 0, 1), (0, 0, 8)], [(1, 8, 8)], [(0, 0, GREAT)],
    # What is no mark.
    [(4, 0, 1)], [(-2, 0, 1)], [(0, -1, 0)], [(0, 0, -1)], [[0, 0, 1]], [(0, 0)], [(0, 0, 1, 0)], [(0, 0, True)],
    [(False, 0, 1)], [(0, False, 1)], [(0, 0, 1.0)], ["+s.."], [None], [()], [[]], [(0, 0, 1), None], [None, (0, 0, 1)],
    # What is no list.
    ((0, 0, 1), (0, 0, 2)), ((0, 0, 1),), (0, 0, 1), {(0, 0, 1): True}, {(0, 0, 1)}, frozenset([(0, 0, 1)]),
    iter([(0, 0, 1)]), "+s..", range(0),
]


# The document's words for a part that writes a move, but that its cells are unlike ones.
WRITTEN = re.compile(
    " *(?:(flip|mix) +([0-5])|(turn) +([0-5]) +([1-7])|(if|pair|swap) +([0-5]) +([0-5])"
    "|(cross) +([0-5]) +([0-5]) +([0-5])) *"
)

# None of these parts of a text writes a move; nor does one of them write a look of six cells.
UNKNOWN_WORDS = [
    "turns 0 1", "flop 0", "Flip 0", "FLIP 0", "look 0", "look +f", "f 0", "0", "5 5", "flip0flip 0", "flip, 0",
    "flip flip 0", "flip flip", "0 flip", "0 flip 0", "(flip 0)", "('flip', 0)", "'flip' 0", "flip: 0", "-", "~",
    "fl ip 0", "mi x 0", "pai r 0 1", "i f 0 1", "None", "turn\" 0 1", "crosses 0 1 2", "flips 0", "ifs 0 1", "xflip 0",
]
TOO_FEW = [
    "flip", "mix", "turn", "if", "pair", "swap", "cross", "turn 0", "if 1", "pair 2", "swap 3", "cross 0", "cross 0 1",
]
TOO_MANY = [
    "flip 0 1", "mix 0 1", "turn 0 1 2", "if 0 1 2", "pair 0 1 2", "swap 0 1 2", "cross 0 1 2 3", "flip 0 0",
    "flip 0 flip", "flip 0 flip 1", "mix 0 .", "if 0 1 ,", "flip 0 ~",
]
MORE_FIGURES = [
    "flip 00", "flip 01", "mix 10", "mix 12", "turn 0 01", "turn 0 07", "turn 00 1", "turn 0 11", "if 0 01", "if 00 1",
    "pair 1 02", "swap 05 1", "cross 0 1 02", "cross 00 1 2", "flip 0000000", "mix 55", "flip " + "0" * 3000 + "1",
]
NO_FIGURES = [
    "flip -0", "flip +1", "flip -1", "flip a", "flip 0.", "flip 1.0", "flip .5", "mix 1e0", "turn 0 -1", "turn 0 k",
    "if a b", "swap 0,1", "swap 0, 1", "pair 0 x", "cross 0 1 c", "flip 0x1", "flip 1_", "flip _", "flip /", "flip :",
    "flip (0)", "flip '0'", "flip True", "flip None", "flip ~", "flip !", "turn 0 '", "mix @",
]
CELLS_BEYOND = [
    "flip 6", "flip 7", "flip 8", "flip 9", "mix 6", "mix 9", "turn 6 1", "turn 9 7", "if 6 0", "if 0 6", "pair 0 7",
    "pair 7 0", "swap 8 1", "swap 1 8", "cross 6 0 1", "cross 0 6 1", "cross 0 1 6", "cross 0 1 9",
]
CELLS_TWICE = [
    "if 0 0", "if 5 5", "pair 1 1", "swap 2 2", "cross 0 0 1", "cross 0 1 0", "cross 1 0 0", "cross 3 3 3",
    "cross 5 4 5",
]
WRONG_K = ["turn 0 0", "turn 0 8", "turn 0 9", "turn 5 0", "turn 5 8", "turn 5 9", "turn 3 0"]
NO_BLANK = [
    "flip0", "mix1", "turn0 1", "turn0", "turn 01", "turn01", "if0 1", "if01", "if 01", "pair0 1", "pair 12", "swap1 2",
    "swap 12", "cross0 1 2", "cross 012", "cross 01 2", "cross 0 12", "cross012",
]
OTHER_SIGNS = [
    "flip\t0", "flip\n0", "flip 0\n", "\nflip 0", "\tflip 0", "flip 0\t", "flip\u00a00", "flip\r0", "flip 0\r\n",
    "flip \u0661", "flip \u00b2", "flip \uff11", "flip 0\x00", "\x0bflip 0", "flip 0\x0c", "flip\u20030",
    "\ufeffflip 0", "\u00a0", "\t", "\n", "\ud800", "flip \ud800",
]
WRONG_PARTS = (
    UNKNOWN_WORDS + TOO_FEW + TOO_MANY + MORE_FIGURES + NO_FIGURES + CELLS_BEYOND + CELLS_TWICE + WRONG_K + NO_BLANK
    + OTHER_SIGNS
)


def move_by_words(part, cells):
    """The move of so many cells that the part of a text writes, or None."""
    found = WRITTEN.fullmatch(part)
    if found is None:
        return None
    told = [group for group in found.groups() if group is not None]
    move = (told[0], *[int(figure) for figure in told[1:]])
    named = move[1:2] if move[0] == "turn" else move[1:]
    return move if len(set(named)) == len(named) and max(named) < cells else None


def table_of(text):
    return [read_mark(part)[0] for part in text.split()]


FIVE = table_of("+fssf. +.fssf +f.fss +sf.fs")
FOUR = table_of("+ffff +ssss")
SIX = table_of("+fssf.. +.fssf. +f.fss. +sf.fs. +.....s")
SIX_TIED = table_of("+ffff.. +ssss.. +....ff +....ss")


def numbers(seed, most=40):
    """An endless walk over whole numbers, small and great, below and above 0; the same walk for the same seed."""
    source = random.Random(seed)
    while True:
        bits = source.choice([0, 1, 2, 3, 8, most])
        yield source.randint(-(2 ** bits), 2 ** bits)


def worth(one):
    """The four parts as fractions: of each number there is one such list."""
    return [Fraction(part, 2 ** one[4]) for part in one[:4]]


def worth_times(one, other):
    full = [Fraction(0)] * 7
    for i, j in itertools.product(range(4), repeat=2):
        full[i + j] += one[i] * other[j]
    return [full[i] - (full[i + 4] if i < 3 else 0) for i in range(4)]


def worth_spun(one, k):
    for _ in range(k):
        one = worth_times(one, [0, 1, 0, 0])
    return one


def cells_in(word, cells):
    """The cells that a word has, by its figures in base two, the last one cell 0."""
    figures = format(word, f"0{cells}b")[::-1]
    return frozenset(cell for cell, figure in enumerate(figures) if figure == "1")


def told_by_cells(board):
    """The board as a dict from the set of cells that a word has to the worth of its amount."""
    cells = len(format(len(board) - 1, "b"))
    return {cells_in(word, cells): worth(one) for word, one in enumerate(board)}


def laid_by_words(told, flips, signs, q):
    """The document's words for a mark that is laid on, over sets of cells."""
    behind = {}
    for cells, one in told.items():
        goes_to = frozenset(cell for cell in cells | flips if (cell in cells) != (cell in flips))
        behind[goes_to] = worth_spun(one, (2 * q + 4 * len(cells & signs)) % 8)
    return behind


def some_board(cells, seed=1):
    """A board of sundry amounts, some with halvings; on odd seeds every third one, from the word 1 on, is nought."""
    walk = numbers(f"{cells} {seed}", 12)
    board = []
    for word in range(2 ** cells):
        parts = [next(walk) for _ in range(4)]
        lean = seed % 2 == 1 and word % 3 == 1
        board.append(amount(*([0] * 4 if lean else parts[:3] + [4 * parts[3] + 1]), abs(next(walk)) % 5))
    return board


def great_board(cells):
    """A board with parts of a thousand figures and a thousand halvings."""
    walk = numbers(cells, 3300)
    return [amount(GREAT + word, next(walk), next(walk), 2 * word, 1000 - word) for word in range(2 ** cells)]


def all_moves(cells):
    """Every move of a board with so many cells."""
    for a in range(cells):
        yield from [("flip", a), ("mix", a)]
        yield from [("turn", a, k) for k in range(1, 8)]
    for pair in itertools.permutations(range(cells), 2):
        yield from [(word, *pair) for word in ["if", "pair", "swap"]]
    yield from [("cross", *cells_named) for cells_named in itertools.permutations(range(cells), 3)]


def row_out_of(moves, many, source):
    """So many of the moves, in no order, those of each kind as often as those of another one."""
    kinds = {}
    for move in moves:
        kinds.setdefault(move[0], []).append(move)
    return [source.choice(kinds[source.choice(sorted(kinds))]) for _ in range(many)]


def some_row(cells, many, seed):
    """So many moves, of every kind that the cells allow, in no order; the same ones for the same seed."""
    return row_out_of(all_moves(cells), many, random.Random(f"{cells} {many} {seed}"))


def is_odd_turn_by_words(move):
    return move[0] == "turn" and move[2] in (1, 3, 5, 7)


def borne_moves(cells):
    """Every move of so many cells but the crosses and the odd turns."""
    return [move for move in all_moves(cells) if move[0] != "cross" and not is_odd_turn_by_words(move)]


def borne_row(cells, many, seed):
    return row_out_of(borne_moves(cells), many, random.Random(f"borne {cells} {many} {seed}"))


def row_with_odd_turns(cells, many, odd, seed):
    """So many moves that tables bear, and so many odd turns at any places among them."""
    source = random.Random(f"odd {cells} {many} {odd} {seed}")
    row = row_out_of(borne_moves(cells), many, source)
    for _ in range(odd):
        turn = ("turn", source.randrange(cells), source.choice([1, 3, 5, 7]))
        row.insert(source.randrange(len(row) + 1), turn)
    return row


def all_marks(cells):
    return list(itertools.product(range(4), range(2 ** cells), range(2 ** cells)))


def some_marks(cells, many, seed):
    source = random.Random(f"{cells} {seed}")
    return [(source.randrange(4), source.randrange(2 ** cells), source.randrange(2 ** cells)) for _ in range(many)]


def no_marks_of(cells):
    """Things of every kind that are no even mark of so many cells."""
    yield from NO_MARKS
    yield from ANYTHING
    yield from [(0, 2 ** cells, 0), (0, 0, 2 ** cells), (1, 2 ** cells, 2 ** cells), (0, 2 ** cells + 1, 0), (2, 0, 64)]
    yield from [(1, 0, 0), (3, 0, 0), (1, 1, 0), (3, 1, 0), (1, 0, 1), (3, 0, 1), (0, 1, 1), (2, 1, 1)]
    for place, thing in itertools.product(range(3), NOT_WHOLE):
        yield tuple(thing if place == other else 1 for other in range(3))


def even_marks(cells):
    return [mark for mark in all_marks(cells) if is_even(mark)]


def some_even_marks(cells, many, seed):
    return [mark for mark in some_marks(cells, 8 * many, seed) if is_even(mark)][:many]


def with_looks(row, cells, looks, seed):
    """The parts of a play: the row with so many looks at any places among its moves."""
    source = random.Random(f"{cells} {looks} {seed}")
    parts = list(row)
    for mark in some_even_marks(cells, looks, seed):
        parts.insert(source.randrange(len(parts) + 1), ("look", mark))
    return parts


def products_of(rows):
    """All products of none or more of the rows, each once: 2 to the number of rows, the first one of none."""
    told = [(0, 0, 0)]
    for row in rows:
        told = told + [product(mark, row) for mark in told]
    return told


def some_table(cells, many, seed):
    """A table of so many rows, in no order; the same one for the same seed."""
    source = random.Random(f"{cells} {many} {seed}")
    rows = []
    while len(rows) < many:
        mark = (source.randrange(4), source.randrange(2 ** cells), source.randrange(2 ** cells))
        made = [mark[1:] == other[1:] for other in products_of(rows)]
        if is_even(mark) and all(commute(mark, row) for row in rows) and not any(made):
            rows.append(mark)
    return rows


def made_otherwise(rows, seed):
    """Another table with the same marks: rows multiplied by others, and put in another order."""
    source = random.Random(f"{rows} {seed}")
    told = list(rows)
    for _ in range(12 if len(rows) > 1 else 0):
        i, j = source.sample(range(len(rows)), 2)
        told[i] = product(told[i], told[j])
    source.shuffle(told)
    return told


def is_empty_list(thing):
    return isinstance(thing, list) and len(thing) == 0


def is_table_by_words(rows, cells):
    """The document's words, with every product of one or more rows, each once, made by itself."""
    if not all(is_mark(row, cells) and is_even(row) for row in rows):
        return False
    if not all(commute(one, other) for one, other in itertools.combinations(rows, 2)):
        return False
    for many in range(1, len(rows) + 1):
        for some in itertools.combinations(rows, many):
            flips = signs = 0
            for q, f, s in some:
                flips, signs = flips ^ f, signs ^ s
            if flips == signs == 0:
                return False
    return True


def lead_by_words(mark):
    flips, signs = cells_in(mark[1], 6), cells_in(mark[2], 6)
    return min(flips) if flips else 6 + min(signs)


def what_it_has(mark):
    """The flips as their cells, the signs as their cells and 6 more."""
    return cells_in(mark[1], 6) | {6 + cell for cell in cells_in(mark[2], 6)}


def is_reduced_by_words(rows):
    leads = [lead_by_words(row) for row in rows]
    if leads != sorted(set(leads)):
        return False
    return not any(leads[i] in what_it_has(rows[j]) for i, j in itertools.permutations(range(len(rows)), 2))


def all_tables(cells):
    """Every table of so many cells, in every order of its rows."""
    for many in range(cells + 1):
        for rows in itertools.product(even_marks(cells), repeat=many):
            if is_table_by_words(list(rows), cells):
                yield list(rows)


class OwnCase(unittest.TestCase):
    def assert_own(self, ask, *handed):
        """What is told is a new list: changed, it shows neither in what was handed in nor in what is told later."""
        before = copy.deepcopy(handed)
        first = ask(*handed)
        kept = list(first)
        for thing in handed:
            self.assertIsNot(first, thing)
        first[:1] = ["changed"]
        first.append("more")
        self.assertEqual(handed, before)
        self.assertEqual(ask(*handed), kept)
        self.assertEqual(handed, before)
