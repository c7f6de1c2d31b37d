"""What several tests need: things of every kind, numbers to try, and boards told by sets of cells and fractions."""

import copy
import itertools
import random
import unittest
from fractions import Fraction

from spinboard.amounts import amount
from spinboard.marks import commute, is_even, is_mark, product


class Odd:
    """A thing that answers no question about itself."""

    def __eq__(self, other):
        raise RuntimeError("not to be compared")

    def __bool__(self):
        raise RuntimeError("neither true nor false")

    def __len__(self):
        raise RuntimeError("not to be counted")

    def __index__(self):
        return 1


OTHER_KINDS = [
    True, False, None, "", "1", "12345", b"1", 1.0, 0.5, float("nan"), 1j, [], [1], (), (1,),
    {}, {1: 1}, set(), frozenset([1]), range(3), int, Odd(), Odd, len,
]

NOT_WHOLE = OTHER_KINDS + [(0, 0, 1)]

RING = []
RING.append(RING)

GREAT = 10 ** 999 + 7

# None of these is a mark, a mark's text, a list of amounts that make a board, or a move.
ANYTHING = OTHER_KINDS + [
    0, 1, -1, 2, 64, GREAT, -GREAT, RING, (RING, RING, RING), [None] * 4, [Odd(), Odd()], (Odd(), Odd(), Odd()),
    (None, None), ("flip",), ([], []), ({}, 0), bytearray(2), iter([]), object(), ValueError("flip"), "flip", Ellipsis,
]


# Each of these would be a table of three cells, were it not for one thing.
NO_TABLES = [
    # An odd mark.
    [(1, 0, 1)], [(0, 1, 1)], [(3, 1, 0)], [(0, 0, 2), (0, 1, 1)], [(1, 0, 1), (0, 0, 2)], [(0, 0, 1), (3, 0, 2)],
    # Two that don't commute.
    [(0, 1, 0), (0, 0, 1)], [(0, 0, 1), (0, 0, 2), (0, 1, 0)], [(1, 1, 1), (0, 1, 0)], [(0, 3, 0), (0, 0, 1)],
    [(0, 1, 2), (0, 0, 4), (0, 2, 0)],
    # A product with f and s both 0.
    [(0, 0, 0)], [(2, 0, 0)], [(0, 0, 1), (0, 0, 1)], [(0, 0, 1), (2, 0, 1)], [(0, 0, 1), (0, 0, 0)],
    [(0, 0, 1), (0, 0, 2), (0, 0, 3)], [(0, 0, 1), (0, 0, 2), (2, 0, 3)], [(0, 3, 0), (0, 0, 3), (2, 3, 3)],
    [(0, 3, 0), (0, 0, 3), (0, 3, 3)], [(2, 0, 0), (0, 0, 1), (0, 0, 2)], [(0, 0, 3), (0, 0, 6), (0, 0, 5)],
    # More than n marks.
    [(0, 0, 1), (0, 0, 2), (0, 0, 4), (0, 0, 7)], [(0, 0, 1), (0, 0, 2), (0, 0, 4), (0, 0, 0)],
    [(0, 0, 1), (0, 0, 2), (0, 0, 4), (0, 1, 0)], [(0, 0, word) for word in range(1, 8)] + [(2, 0, 1)] * 5,
    # Marks of more cells.
    [(0, 0, 8)], [(0, 8, 0)], [(0, 0, 1), (0, 0, 8)], [(1, 8, 8)], [(0, 0, GREAT)],
    # What is no mark.
    [(4, 0, 1)], [(-2, 0, 1)], [(0, -1, 0)], [(0, 0, -1)], [[0, 0, 1]], [(0, 0)], [(0, 0, 1, 0)], [(0, 0, True)],
    [(False, 0, 1)], [(0, False, 1)], [(0, 0, 1.0)], ["+s.."], [None], [()], [[]], [(0, 0, 1), None], [None, (0, 0, 1)],
    # What is no list.
    ((0, 0, 1), (0, 0, 2)), ((0, 0, 1),), (0, 0, 1), {(0, 0, 1): True}, {(0, 0, 1)}, frozenset([(0, 0, 1)]),
    iter([(0, 0, 1)]), "+s..", range(0),
]


def numbers(seed, most=40):
    """An endless walk over whole numbers, small and great, below and above 0; the same walk for the same seed."""
    source = random.Random(seed)
    while True:
        bits = source.choice([0, 1, 2, 3, 8, most])
        yield source.randint(-(2 ** bits), 2 ** bits)


def worth(one):
    """The four parts as fractions: of each number there is one such list."""
    return [Fraction(part, 2 ** one[4]) for part in one[:4]]


def worth_times(one, other):
    full = [Fraction(0)] * 7
    for i, j in itertools.product(range(4), repeat=2):
        full[i + j] += one[i] * other[j]
    return [full[i] - (full[i + 4] if i < 3 else 0) for i in range(4)]


def worth_spun(one, k):
    for _ in range(k):
        one = worth_times(one, [0, 1, 0, 0])
    return one


def cells_in(word, cells):
    """The cells that a word has, by its figures in base two, the last one cell 0."""
    figures = format(word, f"0{cells}b")[::-1]
    return frozenset(cell for cell, figure in enumerate(figures) if figure == "1")


def told_by_cells(board):
    """The board as a dict from the set of cells that a word has to the worth of its amount."""
    cells = len(format(len(board) - 1, "b"))
    return {cells_in(word, cells): worth(one) for word, one in enumerate(board)}


def laid_by_words(told, flips, signs, q):
    """The document's words for a mark that is laid on, over sets of cells."""
    behind = {}
    for cells, one in told.items():
        goes_to = frozenset(cell for cell in cells | flips if (cell in cells) != (cell in flips))
        behind[goes_to] = worth_spun(one, (2 * q + 4 * len(cells & signs)) % 8)
    return behind


def some_board(cells, seed=1):
    """A board of sundry amounts, some with halvings; on odd seeds every third one, from the word 1 on, is nought."""
    walk = numbers(f"{cells} {seed}", 12)
    board = []
    for word in range(2 ** cells):
        parts = [next(walk) for _ in range(4)]
        lean = seed % 2 == 1 and word % 3 == 1
        board.append(amount(*([0] * 4 if lean else parts[:3] + [4 * parts[3] + 1]), abs(next(walk)) % 5))
    return board


def great_board(cells):
    """A board with parts of a thousand figures and a thousand halvings."""
    walk = numbers(cells, 3300)
    return [amount(GREAT + word, next(walk), next(walk), 2 * word, 1000 - word) for word in range(2 ** cells)]


def all_moves(cells):
    """Every move of a board with so many cells."""
    for a in range(cells):
        yield from [("flip", a), ("mix", a)]
        yield from [("turn", a, k) for k in range(1, 8)]
    for pair in itertools.permutations(range(cells), 2):
        yield from [(word, *pair) for word in ["if", "pair", "swap"]]
    yield from [("cross", *cells_named) for cells_named in itertools.permutations(range(cells), 3)]


def row_out_of(moves, many, source):
    """So many of the moves, in no order, those of each kind as often as those of another one."""
    kinds = {}
    for move in moves:
        kinds.setdefault(move[0], []).append(move)
    return [source.choice(kinds[source.choice(sorted(kinds))]) for _ in range(many)]


def some_row(cells, many, seed):
    """So many moves, of every kind that the cells allow, in no order; the same ones for the same seed."""
    return row_out_of(all_moves(cells), many, random.Random(f"{cells} {many} {seed}"))


def is_odd_turn_by_words(move):
    return move[0] == "turn" and move[2] in (1, 3, 5, 7)


def borne_moves(cells):
    """Every move of so many cells but the crosses and the odd turns."""
    return [move for move in all_moves(cells) if move[0] != "cross" and not is_odd_turn_by_words(move)]


def borne_row(cells, many, seed):
    return row_out_of(borne_moves(cells), many, random.Random(f"borne {cells} {many} {seed}"))


def row_with_odd_turns(cells, many, odd, seed):
    """So many moves that tables bear, and so many odd turns at any places among them."""
    source = random.Random(f"odd {cells} {many} {odd} {seed}")
    row = row_out_of(borne_moves(cells), many, source)
    for _ in range(odd):
        turn = ("turn", source.randrange(cells), source.choice([1, 3, 5, 7]))
        row.insert(source.randrange(len(row) + 1), turn)
    return row


def all_marks(cells):
    return list(itertools.product(range(4), range(2 ** cells), range(2 ** cells)))


def some_marks(cells, many, seed):
    source = random.Random(f"{cells} {seed}")
    return [(source.randrange(4), source.randrange(2 ** cells), source.randrange(2 ** cells)) for _ in range(many)]


def even_marks(cells):
    return [mark for mark in all_marks(cells) if is_even(mark)]


def some_even_marks(cells, many, seed):
    return [mark for mark in some_marks(cells, 8 * many, seed) if is_even(mark)][:many]


def products_of(rows):
    """All products of none or more of the rows, each once: 2 to the number of rows, the first one of none."""
    told = [(0, 0, 0)]
    for row in rows:
        told = told + [product(mark, row) for mark in told]
    return told


def some_table(cells, many, seed):
    """A table of so many rows, in no order; the same one for the same seed."""
    source = random.Random(f"{cells} {many} {seed}")
    rows = []
    while len(rows) < many:
        mark = (source.randrange(4), source.randrange(2 ** cells), source.randrange(2 ** cells))
        made = [mark[1:] == other[1:] for other in products_of(rows)]
        if is_even(mark) and all(commute(mark, row) for row in rows) and not any(made):
            rows.append(mark)
    return rows


def made_otherwise(rows, seed):
    """Another table with the same marks: rows multiplied by others, and put in another order."""
    source = random.Random(f"{rows} {seed}")
    told = list(rows)
    for _ in range(12 if len(rows) > 1 else 0):
        i, j = source.sample(range(len(rows)), 2)
        told[i] = product(told[i], told[j])
    source.shuffle(told)
    return told


def is_empty_list(thing):
    return isinstance(thing, list) and len(thing) == 0


def is_table_by_words(rows, cells):
    """The document's words, with every product of one or more rows, each once, made by itself."""
    if not all(is_mark(row, cells) and is_even(row) for row in rows):
        return False
    if not all(commute(one, other) for one, other in itertools.combinations(rows, 2)):
        return False
    for many in range(1, len(rows) + 1):
        for some in itertools.combinations(rows, many):
            flips = signs = 0
            for q, f, s in some:
                flips, signs = flips ^ f, signs ^ s
            if flips == signs == 0:
                return False
    return True


def lead_by_words(mark):
    flips, signs = cells_in(mark[1], 6), cells_in(mark[2], 6)
    return min(flips) if flips else 6 + min(signs)


def what_it_has(mark):
    """The flips as their cells, the signs as their cells and 6 more."""
    return cells_in(mark[1], 6) | {6 + cell for cell in cells_in(mark[2], 6)}


def is_reduced_by_words(rows):
    leads = [lead_by_words(row) for row in rows]
    if leads != sorted(set(leads)):
        return False
    return not any(leads[i] in what_it_has(rows[j]) for i, j in itertools.permutations(range(len(rows)), 2))


def all_tables(cells):
    """Every table of so many cells, in every order of its rows."""
    for many in range(cells + 1):
        for rows in itertools.product(even_marks(cells), repeat=many):
            if is_table_by_words(list(rows), cells):
                yield list(rows)


class OwnCase(unittest.TestCase):
    def assert_own(self, ask, *handed):
        """What is told is a new list: changed, it shows neither in what was handed in nor in what is told later."""
        before = copy.deepcopy(handed)
        first = ask(*handed)
        kept = list(first)
        for thing in handed:
            self.assertIsNot(first, thing)
        first[:1] = ["changed"]
        first.append("more")
        self.assertEqual(handed, before)
        self.assertEqual(ask(*handed), kept)
        self.assertEqual(handed, before)
