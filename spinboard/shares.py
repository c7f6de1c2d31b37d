"""Shares: tuples (p, q, n) that stand for (p + q times the root of 2) / n."""

from spinboard.errors import NoShare


def is_whole(thing):
    return isinstance(thing, int) and not isinstance(thing, bool)


def share(top, root=0, bottom=1):
    if not (is_whole(top) and is_whole(root) and is_whole(bottom)):
        raise NoShare("a share is made of whole numbers")
    if bottom == 0:
        raise NoShare("the bottom of a share is not 0")
    common = common_divisor(common_divisor(abs(bottom), abs(root)), abs(top))
    if bottom < 0:
        common = -common
    return (top // common, root // common, bottom // common)


def common_divisor(one, other):
    while other != 0:
        rest = one % other
        one = other
        other = rest
    return one


def share_plus(one, other):
    top = one[0] * other[2] + other[0] * one[2]
    root = one[1] * other[2] + other[1] * one[2]
    return share(top, root, one[2] * other[2])


def share_minus(one, other):
    return share_plus(one, (-other[0], -other[1], other[2]))


def share_times(one, other):
    top = one[0] * other[0] + 2 * one[1] * other[1]
    root = one[0] * other[1] + one[1] * other[0]
    return share(top, root, one[2] * other[2])


def share_over(one, other):
    # (r + s root) (r - s root) is r r - 2 s s, without a root; it is 0 for nought alone, as the root is no fraction.
    rootless = other[0] * other[0] - 2 * other[1] * other[1]
    if rootless == 0:
        raise NoShare("no share is divided by nought")
    return share_times(one, share(other[2] * other[0], -other[2] * other[1], rootless))


def share_under(one, other):
    gap = share_minus(one, other)
    return is_below_nought(gap[0], gap[1])


def is_below_nought(top, root):
    if top >= 0 and root >= 0:
        return False
    if top <= 0 and root <= 0:
        return True
    # Of unlike signs the greater part wins; squares tell which one it is without a rounded root.
    if root < 0:
        return top * top < 2 * root * root
    return top * top > 2 * root * root


def show_share(one):
    return " ".join([show_whole(part) for part in one])


def show_whole(number):
    # Python's own str refuses numbers of more than 4300 figures, so long ones are written piece by piece.
    piece = 10 ** 64
    rest = abs(number)
    shown = ""
    while rest >= piece:
        shown = str(rest % piece).zfill(64) + shown
        rest = rest // piece
    shown = str(rest) + shown
    return "-" + shown if number < 0 else shown
