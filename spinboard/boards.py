"""Boards: lists with an amount for each word of their cells, not all of them nought."""

from spinboard.amounts import is_amount, mirror, plus, real_share, spun, times
from spinboard.errors import NoBoard
from spinboard.marks import is_word, ones
from spinboard.shares import is_whole

NOUGHT = (0, 0, 0, 0, 0)
ONE = (1, 0, 0, 0, 0)
LENGTHS = (2, 4, 8, 16, 32, 64)
MOST_CELLS = 6


def start(cells, word=0):
    check_beginning(cells, word)
    return [ONE if place == word else NOUGHT for place in range(1 << cells)]


def check_beginning(cells, word):
    if not is_whole(cells) or cells < 1 or cells > MOST_CELLS:
        raise NoBoard("a board has one to six cells")
    if not is_word(word, cells):
        raise NoBoard("a board begins at a word of its cells")


def board_of(amounts):
    if not isinstance(amounts, list) or len(amounts) not in LENGTHS:
        raise NoBoard("a board is a list with an amount for each word of one to six cells")
    if not all([is_amount(one) for one in amounts]):
        raise NoBoard("a board holds amounts alone")
    if all([one == NOUGHT for one in amounts]):
        raise NoBoard("the amounts of a board are not all nought")
    return list(amounts)


def cells_of(board):
    return len(board).bit_length() - 1


def heft(board):
    # Summed as amounts, and made a share once: to bring each weight to its least terms by itself takes long.
    total = NOUGHT
    for one in board:
        total = plus(total, times(one, mirror(one)))
    return real_share(total)


def scaled(board, one):
    return [times(each, one) for each in board]


def laid_on(board, mark):
    # What is at a word now came from the word that differs from it at the flips.
    return [spun_by_mark(board, word ^ mark[1], mark) for word in range(len(board))]


def spun_by_mark(board, word, mark):
    return spun(board[word], 2 * mark[0] + 4 * ones(word & mark[2]))


def parted(one, other):
    if len(one) != len(other):
        raise NoBoard("boards of unlike numbers of cells are not held against one another")
    # With an amount that is not nought at i, the words i and j for each j tell the ratio of the boards everywhere.
    i = first_held(one)
    for j in range(len(one)):
        if times(one[i], other[j]) != times(one[j], other[i]):
            return (i, j)
    return None


def first_held(board):
    return [word for word, one in enumerate(board) if one != NOUGHT][0]
