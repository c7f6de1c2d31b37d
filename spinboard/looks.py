"""Looks at boards: what a look settles, and the shares of its outcomes."""

from spinboard.amounts import halved_out, minus, plus, weight
from spinboard.boards import NOUGHT, cells_of, heft, laid_on
from spinboard.errors import NeverSo, NoMark
from spinboard.marks import is_even_mark
from spinboard.shares import share_over, share_under


def settled(board, mark, outcome):
    check_look(mark, cells_of(board))
    behind = half_left(board, mark, outcome)
    if is_nothing(behind):
        raise NeverSo("this outcome leaves nothing of the board")
    return behind


def check_look(mark, cells):
    if not is_even_mark(mark, cells):
        raise NoMark("a look is at an even mark of the board's cells")


def half_left(board, mark, outcome):
    laid = laid_on(board, mark)
    if outcome == 0:
        return [halved(plus(one, other)) for one, other in zip(board, laid)]
    return [halved(minus(one, other)) for one, other in zip(board, laid)]


def halved(one):
    return halved_out(one[0], one[1], one[2], one[3], one[4] + 1)


def is_nothing(amounts):
    return all([one == NOUGHT for one in amounts])


def looked(board, mark):
    check_look(mark, cells_of(board))
    ahead = heft(board)
    return (left_share(board, mark, 0, ahead), left_share(board, mark, 1, ahead))


def left_share(board, mark, outcome, ahead):
    return share_over(heft(half_left(board, mark, outcome)), ahead)


def outcomes(board, marks):
    for mark in marks:
        check_look(mark, cells_of(board))
    # A copy, so that the board told of no marks is the asker's own, too.
    ways = [((), list(board))]
    for mark in marks:
        ways = ways_on(ways, mark)
    ahead = heft(board)
    return [(outs, share_over(heft(behind), ahead), behind) for outs, behind in ways]


def ways_on(ways, mark):
    further = []
    for outs, behind in ways:
        for outcome in (0, 1):
            left = half_left(behind, mark, outcome)
            if not is_nothing(left):
                further.append((outs + (outcome,), left))
    return further


def word_shares(board):
    ahead = heft(board)
    return [share_over(weight(one), ahead) for one in board]


def likeliest(board):
    # The heft is the same for all words, so the weights stand in the order of the shares.
    weights = [weight(one) for one in board]
    greatest = weights[0]
    for one in weights:
        if share_under(greatest, one):
            greatest = one
    return [word for word, one in enumerate(weights) if one == greatest]
