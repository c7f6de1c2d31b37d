"""Plays: texts that tell a number of cells, moves and looks."""

from spinboard.errors import NoMark, NoText
from spinboard.marks import read_mark, show_mark
from spinboard.rowtexts import parts_of, read_move, show_move, words_of

FIGURES_OF_CELLS = ("1", "2", "3", "4", "5", "6")
MOST_LOOKS = 6


def read_play(text):
    if not isinstance(text, str):
        raise NoText(0)
    sides = text.partition(":")
    figures = words_of(sides[0])
    if sides[1] == "" or len(figures) != 1 or figures[0] not in FIGURES_OF_CELLS:
        raise NoText(0)
    cells = int(figures[0])
    return (cells, read_parts(sides[2], cells))


def read_parts(text, cells):
    parts = []
    looks = 0
    for place, written in enumerate(parts_of(text), start=1):
        part = read_part(written, cells)
        if part is None:
            raise NoText(place)
        if part[0] == "look":
            looks = looks + 1
        if looks > MOST_LOOKS:
            raise NoText(place)
        parts.append(part)
    return parts


def read_part(written, cells):
    words = words_of(written)
    if len(words) == 2 and words[0] == "look":
        return read_look(words[1], cells)
    return read_move(written, cells)


def read_look(text, cells):
    try:
        told = read_mark(text)
    except NoMark:
        return None
    return ("look", told[0]) if told[1] == cells else None


def show_play(cells, parts):
    return f"{cells}: " + "; ".join([show_part(part, cells) for part in parts])


def show_part(part, cells):
    return "look " + show_mark(part[1], cells) if part[0] == "look" else show_move(part)
