"""Rows made anew: a layer for each mark that is to be the image of a cell's flip or sign."""

from spinboard.errors import NoTable
from spinboard.images import plain_marks
from spinboard.marks import cell_sign, commute, is_even_mark
from spinboard.rows import backward
from spinboard.tables import check_table, least_cell
from spinboard.tableturns import moved_through


def rebuilt(marks, cells):
    if not are_images(marks, cells):
        raise NoTable("these marks are no images of a row")
    # The row made here moves the marks to the flips and signs of the cells; so the backward row moves these to them.
    row = []
    for cell in range(cells):
        row = row + layer_to_sign(moved_through(marks[2 * cell + 1], row), cell, cells)
        row = row + layer_to_flip(moved_through(marks[2 * cell], row), cell, cells)
    return backward(row)


def are_images(marks, cells):
    plain = plain_marks(cells)
    if not isinstance(marks, list) or len(marks) != len(plain):
        return False
    if not all([is_even_mark(mark, cells) for mark in marks]):
        return False
    return all([commute_alike(marks, plain, place) for place in range(len(plain))])


def commute_alike(marks, plain, place):
    return all([commute(mark, marks[place]) == commute(each, plain[place]) for mark, each in zip(marks, plain)])


def laid(rows, cells):
    check_table(rows, cells)
    row = []
    for cell, mark in enumerate(rows):
        row = row + layer_to_sign(moved_through(mark, row), cell, cells)
    return backward(row)


def layer_to_sign(mark, cell, cells):
    # The signs of the cells below this one stay as they are. The mark commutes with them, so it has no flips there;
    # and it is not made of them alone, so it has something from this cell on.
    row = []
    for each in range(cell, cells):
        row.extend(moves_to_sign(cell_sign(mark, each), each))
    signs = moved_through(mark, row)[2]
    kept = cell + least_cell(signs >> cell)
    row.extend([("if", each, kept) for each in range(cells) if each != kept and (signs >> each) & 1])
    if kept != cell:
        row.append(("swap", cell, kept))
    if moved_through(mark, row)[0] != 0:
        row.append(("flip", cell))
    return row


def moves_to_sign(letter, cell):
    if letter == "b":
        return [("turn", cell, 2), ("mix", cell)]
    return [("mix", cell)] if letter == "f" else []


def layer_to_flip(mark, cell, cells):
    # The flips and signs of the cells below this one stay as they are, and so does the sign of this one. The mark
    # commutes with all of them but the last, so it has nothing below this cell, and the flip of this one.
    row = []
    for each in range(cell, cells):
        row.extend(moves_to_flip(cell_sign(mark, each), each))
    flips = moved_through(mark, row)[1]
    row.extend([("if", cell, each) for each in range(cells) if each != cell and (flips >> each) & 1])
    if moved_through(mark, row)[0] != 0:
        row.append(("turn", cell, 4))
    return row


def moves_to_flip(letter, cell):
    if letter == "b":
        return [("turn", cell, 2)]
    return [("mix", cell)] if letter == "s" else []
