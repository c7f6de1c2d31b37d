"""Images: what a row does to the flip and the sign of each cell."""

from spinboard.tableturns import moved_rows


def images(row, cells):
    return moved_rows(plain_marks(cells), row)


def plain_marks(cells):
    marks = []
    for cell in range(cells):
        marks.extend([(0, 1 << cell, 0), (0, 0, 1 << cell)])
    return marks


def unlike(row, other, cells):
    by_row = images(row, cells)
    by_other = images(other, cells)
    for place, mark in enumerate(plain_marks(cells)):
        if by_row[place] != by_other[place]:
            return mark
    return None
