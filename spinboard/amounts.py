"""Amounts: tuples (a, b, c, d, h) that stand for (a + b e + c e e + d e e e) / 2 ** h, with e e e e = -1."""

from spinboard.errors import NoAmount, NoShare
from spinboard.shares import is_whole, share


def is_amount(thing):
    if not isinstance(thing, tuple) or len(thing) != 5:
        return False
    if not all([is_whole(part) for part in thing]) or thing[4] < 0:
        return False
    return thing[4] == 0 or any([part % 2 == 1 for part in thing[:4]])


def amount(a, b=0, c=0, d=0, h=0):
    if not all([is_whole(part) for part in (a, b, c, d, h)]):
        raise NoAmount("an amount is made of whole numbers")
    if h < 0:
        raise NoAmount("the halvings of an amount are not below 0")
    return halved_out(a, b, c, d, h)


def halved_out(a, b, c, d, h):
    places = a | b | c | d
    if places == 0:
        return (0, 0, 0, 0, 0)
    # The lowest binary place at 1 in any part tells how often all four can be halved.
    lowest = (places & -places).bit_length() - 1
    less = min(lowest, h)
    return (a >> less, b >> less, c >> less, d >> less, h - less)


def plus(one, other):
    h = max(one[4], other[4])
    up = h - one[4]
    other_up = h - other[4]
    sums = [(x << up) + (y << other_up) for x, y in zip(one[:4], other[:4])]
    return halved_out(sums[0], sums[1], sums[2], sums[3], h)


def minus(one, other):
    return plus(one, spun(other, 4))


def times(one, other):
    sums = [0, 0, 0, 0]
    turning = one
    for factor in other[:4]:
        sums = [x + factor * y for x, y in zip(sums, turning[:4])]
        turning = spun_once(turning)
    return halved_out(sums[0], sums[1], sums[2], sums[3], one[4] + other[4])


def spun(one, k):
    turning = one
    for step in range(k % 8):
        turning = spun_once(turning)
    return turning


def spun_once(one):
    # e times e e e is -1: the last part comes to the front with its sign changed.
    return (-one[3], one[0], one[1], one[2], one[4])


def mirror(one):
    return (one[0], -one[3], -one[2], -one[1], one[4])


def rooted(one):
    # To divide by the root is to multiply by the root, e - e e e, and to halve.
    return halved_out(one[1] - one[3], one[0] + one[2], one[1] + one[3], one[2] - one[0], one[4] + 1)


def weight(one):
    top = sum([part * part for part in one[:4]])
    root = one[0] * one[1] + one[1] * one[2] + one[2] * one[3] - one[3] * one[0]
    return share(top, root, 1 << (2 * one[4]))


def real_share(one):
    if one[2] != 0 or one[3] != -one[1]:
        raise NoShare("an amount that is not its own mirror is no share")
    return share(one[0], one[1], 1 << one[4])
