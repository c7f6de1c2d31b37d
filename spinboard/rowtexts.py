"""Rows written as texts, and read of them."""

from spinboard.errors import NoCell, NoMove, NoText
from spinboard.moves import check_move

FIGURES = "0123456789"
CELLS_READ = 6


def show_row(row):
    return "; ".join([show_move(move) for move in row])


def show_move(move):
    return " ".join([move[0]] + [str(number) for number in move[1:]])


def read_row(text):
    if not isinstance(text, str):
        raise NoText(0)
    if len(words_of(text)) == 0:
        return []
    row = []
    for place, part in enumerate(text.split(";")):
        move = read_move(part, CELLS_READ)
        if move is None:
            raise NoText(place)
        row.append(move)
    return row


def words_of(part):
    # Parted by the blank alone: split without a sign would take tabs and line feeds for blanks, too.
    return [word for word in part.split(" ") if word != ""]


def read_move(part, cells):
    words = words_of(part)
    if not all([is_figure(word) for word in words[1:]]):
        return None
    move = tuple(words[:1] + [int(word) for word in words[1:]])
    try:
        return check_move(move, cells)
    except (NoMove, NoCell):
        return None


def is_figure(word):
    return len(word) == 1 and word in FIGURES
