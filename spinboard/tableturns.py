"""Tables turned by the moves that they bear, and settled by looks."""

from spinboard.errors import NeverSo, NotBorne
from spinboard.marks import commute, product, turned_about
from spinboard.moves import exchanged
from spinboard.tables import made_of, reduced

SURE = (1, 0, 1)
NEVER = (0, 0, 1)
HALF = (1, 0, 2)


def borne(row):
    for place, move in enumerate(row):
        if not is_borne(move):
            return place
    return None


def is_borne(move):
    return move[0] != "cross" and not is_odd_turn(move)


def is_odd_turn(move):
    return move[0] == "turn" and move[2] % 2 == 1


def moved_mark(mark, row):
    check_borne(row)
    return moved_through(mark, row)


def moved_rows(rows, row):
    check_borne(row)
    return [moved_through(mark, row) for mark in rows]


def check_borne(row):
    place = borne(row)
    if place is not None:
        raise NotBorne(place)


def moved_through(mark, row):
    behind = mark
    for move in row:
        behind = moved_by(behind, move)
    return behind


def moved_by(mark, move):
    bit = 1 << move[1]
    if move[0] == "flip":
        # To change places, a flip and the sign of the same cell need a spin by 4.
        return turned_about(mark) if mark[2] & bit else mark
    if move[0] == "mix":
        return moved_by_mix(mark, bit)
    if move[0] == "turn":
        return moved_by_turn(mark, bit, move[2])
    other = 1 << move[2]
    if move[0] == "if":
        return moved_by_if(mark, bit, other)
    if move[0] == "pair":
        return moved_by_pair(mark, bit, other)
    return (mark[0], exchanged(mark[1], bit, other), exchanged(mark[2], bit, other))


def moved_by_mix(mark, bit):
    flips = (mark[1] & ~bit) | (mark[2] & bit)
    signs = (mark[2] & ~bit) | (mark[1] & bit)
    moved = (mark[0], flips, signs)
    # Of a cell with both the sign is done first. It is the flip now, but still it is the sign that is to be first.
    return turned_about(moved) if flips & signs & bit else moved


def moved_by_turn(mark, bit, k):
    if not mark[1] & bit:
        return mark
    # An amount that comes to have the cell is spun by k, one that had it by k back. That is k for all, and 4 more,
    # the cell's sign, for those that had it where k and k back are not the same.
    signs = mark[2] ^ bit if k % 4 == 2 else mark[2]
    return ((mark[0] + k // 2) % 4, mark[1], signs)


def moved_by_if(mark, bit, other):
    flips = mark[1] ^ other if mark[1] & bit else mark[1]
    signs = mark[2] ^ bit if mark[2] & other else mark[2]
    return (mark[0], flips, signs)


def moved_by_pair(mark, bit, other):
    signs = mark[2]
    if mark[1] & bit:
        signs = signs ^ other
    if mark[1] & other:
        signs = signs ^ bit
    moved = (mark[0], mark[1], signs)
    # With both flipped, the move spins the words that have both cells or neither; the signs spin all others.
    return turned_about(moved) if mark[1] & bit and mark[1] & other else moved


def table_looked(rows, mark):
    told = made_of(rows, mark, len(rows))
    if told[0] == "apart":
        return (HALF, HALF)
    return (SURE, NEVER) if told[1] == 0 else (NEVER, SURE)


def table_settled(rows, mark, outcome):
    if table_looked(rows, mark)[outcome] == NEVER:
        raise NeverSo("this outcome has no share")
    others = [row for row in rows if not commute(row, mark)]
    if len(others) == 0:
        # A full table has all marks that commute with its rows, or these turned about.
        return reduced(rows, len(rows))
    seen = turned_about(mark) if outcome == 1 else mark
    # The product of two rows that don't commute with the mark does commute with it.
    kept = [row if commute(row, mark) else product(row, others[0]) for row in rows if row != others[0]]
    return reduced(kept + [seen], len(rows))
