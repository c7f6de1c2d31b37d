"""Guards: tables that tell a wrong turn at one cell, and the marks that mend it."""

from spinboard.errors import Unguarded
from spinboard.marks import commute, product
from spinboard.tables import PRODUCT_OF_NONE, check_table, made_of


def wrongs(cells, where=None):
    told = [PRODUCT_OF_NONE]
    for cell in list(range(cells)) if where is None else where:
        bit = 1 << cell
        told.extend([(0, bit, 0), (0, 0, bit), (1, bit, bit)])
    return told


def answers(rows, mark):
    return tuple([0 if commute(row, mark) else 1 for row in rows])


def mends(rows, cells, where=None):
    check_table(rows, cells)
    firsts = {}
    for wrong in wrongs(cells, where):
        first = firsts.setdefault(answers(rows, wrong), wrong)
        # Where two wrongs are each apart from the first one by marks of the table, they are so from one another, too.
        if made_of(rows, product(first, wrong), cells)[0] == "apart":
            raise Unguarded(first, wrong)
    return sorted(firsts.items())
