"""Guarded words: boards spread over more cells by a table, and mended where a cell was hit."""

from spinboard.boards import MOST_CELLS, NOUGHT, cells_of, laid_on
from spinboard.errors import NoBoard
from spinboard.guards import mends
from spinboard.layers import laid
from spinboard.looks import outcomes
from spinboard.rows import backward, run
from spinboard.tables import check_table


def widened(board, many):
    if cells_of(board) + many > MOST_CELLS:
        raise NoBoard("a board has six cells at most")
    return [widened_at(board, many, word) for word in range(len(board) << many)]


def widened_at(board, many, word):
    return NOUGHT if has_first_cells(word, many) else board[word >> many]


def has_first_cells(word, many):
    return word & ((1 << many) - 1) != 0


def narrowed(board, many):
    if cells_of(board) <= many:
        raise NoBoard("a board keeps one cell at least")
    if any([one != NOUGHT for word, one in enumerate(board) if has_first_cells(word, many)]):
        raise NoBoard("an amount that is not nought would be lost")
    return board[::1 << many]


def guarded(board, rows, cells):
    row = laid(rows, cells)
    check_cells(cells_of(board) + len(rows), cells)
    return run(widened(board, len(rows)), row)


def check_cells(found, cells):
    if found != cells:
        raise NoBoard("the cells don't come to those that are told")


def unguarded(board, rows, cells):
    row = laid(rows, cells)
    check_cells(cells_of(board), cells)
    return narrowed(run(board, backward(row)), len(rows))


def mended(board, rows, cells, where=None):
    # The mends ask for a table, too; but the board's refusal is to come between theirs.
    check_table(rows, cells)
    check_cells(cells_of(board), cells)
    told = dict(mends(rows, cells, where))
    return [(outs, part, mended_by(behind, told.get(outs))) for outs, part, behind in outcomes(board, rows)]


def mended_by(board, mend):
    return None if mend is None else laid_on(board, mend)
