"""Rows written as texts, and read of them."""

from spinboard.boards import MOST_CELLS
from spinboard.errors import NoCell, NoMove, NoText
from spinboard.moves import check_move

FIGURES = "0123456789"


def show_row(row):
    return "; ".join([show_move(move) for move in row])


def show_move(move):
    return " ".join([move[0]] + [str(number) for number in move[1:]])


def read_row(text):
    if not isinstance(text, str):
        raise NoText(0)
    row = []
    for place, part in enumerate(parts_of(text)):
        move = read_move(part, MOST_CELLS)
        if move is None:
            raise NoText(place)
        row.append(move)
    return row


def parts_of(text):
    # Blanks alone, or no signs, are no part at all, and not one part that writes nothing.
    return [] if len(words_of(text)) == 0 else text.split(";")


def words_of(part):
    # Parted by the blank alone: split without a sign would take tabs and line feeds for blanks, too.
    return [word for word in part.split(" ") if word != ""]


def read_move(part, cells):
    words = words_of(part)
    if not all([is_figure(word) for word in words[1:]]):
        return None
    move = tuple(words[:1] + [int(word) for word in words[1:]])
    try:
        return check_move(move, cells)
    except (NoMove, NoCell):
        return None


def is_figure(word):
    return len(word) == 1 and word in FIGURES
