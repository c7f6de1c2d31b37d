"""Rows: lists of moves that a board is run through."""

from spinboard.moves import back_move, turned


def run(board, row):
    # A copy, so that the board told of a row without moves is the asker's own, too.
    behind = list(board)
    for move in row:
        behind = turned(behind, move)
    return behind


def backward(row):
    return [back_move(move) for move in reversed(row)]
