"""Boards told of full tables, and tables told of boards."""

from spinboard.amounts import plus, rooted, spun
from spinboard.boards import NOUGHT, cells_of, laid_on, start
from spinboard.errors import NoTable
from spinboard.marks import ones
from spinboard.tables import made_of, reduced


def spread(rows):
    if not isinstance(rows, list) or len(rows) < 1 or len(rows) > 6:
        raise NoTable("a full table of one to six cells is a list of as many rows")
    # What is no table is refused here, with NoTable, too.
    table = reduced(rows, len(rows))
    # Begun at the first of the words that will be held: its amount stays real, as no flips of the rows lead back to it.
    held = [word for word in range(1 << len(rows)) if left_by_signs(word, table)]
    board = start(len(rows), held[0])
    for row in table:
        if row[1] != 0:
            # The flips of a reduced table lead to words that are nought by then, so rooted the heft stays one.
            board = [rooted(plus(one, other)) for one, other in zip(board, laid_on(board, row))]
    return board


def left_by_signs(word, rows):
    return all([(row[0] + 2 * ones(word & row[2])) % 4 == 0 for row in rows if row[1] == 0])


def keepers(board):
    cells = cells_of(board)
    rows = []
    for flips in range(len(board)):
        for mark in keepers_with(board, flips):
            if made_of(rows, mark, cells)[0] == "apart":
                rows.append(mark)
    return reduced(rows, cells)


def keepers_with(board, flips):
    spins = spins_on(board, flips)
    if spins is None:
        return []
    first = spins[0]
    # The first word held tells the one q that each choice of signs could have. An odd mark is never left over:
    # laid on twice it spins by 4, and no board is left as it is by that.
    marks = [((first[1] - 2 * ones(first[0] & signs)) % 4, flips, signs) for signs in range(len(board))]
    return [mark for mark in marks if has_spins(mark, spins)]


def spins_on(board, flips):
    # For each word held, the spin (by twice the number) from its amount to the one at the word it is flipped to;
    # None where one of them has no such spin, as then no signs can help.
    spins = []
    for word, one in enumerate(board):
        if one != NOUGHT:
            fitting = [k for k in range(4) if spun(one, 2 * k) == board[word ^ flips]]
            if len(fitting) == 0:
                return None
            spins.append((word, fitting[0]))
    return spins


def has_spins(mark, spins):
    for word, k in spins:
        if (mark[0] + 2 * ones(word & mark[2])) % 4 != k:
            return False
    return True
