"""Tables: lists of even marks that commute, none of them a product of the others."""

from spinboard.bits import solved
from spinboard.errors import NoTable
from spinboard.marks import commute, is_even_mark, ones, product
from spinboard.shares import is_whole

PRODUCT_OF_NONE = (0, 0, 0)
# The leads from this one on are signs, those below it flips.
FIRST_SIGN_LEAD = 6


def is_table(rows, cells):
    if not isinstance(rows, list) or not is_whole(cells) or cells < 1:
        return False
    if not all([is_even_mark(row, cells) for row in rows]):
        return False
    if not all([commutes_with_all(row, rows) for row in rows]):
        return False
    # A product with f and s both 0 tells that the last of its rows is made of those ahead of it.
    return not any([made_of(rows[:place], row, cells)[0] == "made" for place, row in enumerate(rows)])


def commutes_with_all(mark, rows):
    return all([commute(mark, row) for row in rows])


def check_table(rows, cells):
    if not is_table(rows, cells):
        raise NoTable("this is no table of so many cells")


def reduced(rows, cells):
    check_table(rows, cells)
    done = []
    for row in rows:
        fresh = row
        for each in done:
            fresh = without_lead(fresh, each)
        # The rows done have kept their leads: a lead of the fresh row that one of them has lies behind its own.
        done = [without_lead(each, fresh) for each in done] + [fresh]
    return sorted(done, key=lead)


def without_lead(mark, row):
    return product(mark, row) if has_at_lead(mark, lead(row)) else mark


def lead(mark):
    if mark[1] != 0:
        return least_cell(mark[1])
    return FIRST_SIGN_LEAD + least_cell(mark[2])


def least_cell(word):
    return (word & -word).bit_length() - 1


def has_at_lead(mark, place):
    if place < FIRST_SIGN_LEAD:
        return (mark[1] >> place) & 1 == 1
    return (mark[2] >> (place - FIRST_SIGN_LEAD)) & 1 == 1


def made_of(rows, mark, cells):
    # An equation for each cell's flip, then for each cell's sign; a row's place is its binary place in x.
    flips = [(rows_with(rows, 1, cell), (mark[1] >> cell) & 1) for cell in range(cells)]
    signs = [(rows_with(rows, 2, cell), (mark[2] >> cell) & 1) for cell in range(cells)]
    told = solved(flips + signs)
    if told[0] is None:
        return ("apart", apart_by(told[1], cells))
    numbers = [place for place in range(len(rows)) if (told[0] >> place) & 1]
    made = product_of([rows[place] for place in numbers])
    return ("made", (mark[0] - made[0]) % 4, numbers)


def rows_with(rows, part, cell):
    return sum([((row[part] >> cell) & 1) << place for place, row in enumerate(rows)])


def product_of(marks):
    made = PRODUCT_OF_NONE
    for mark in marks:
        made = product(made, mark)
    return made


def apart_by(numbers, cells):
    # Each row has an even number of the flips and signs told, and the mark an odd one. With flips in the place of
    # signs, and signs in that of flips, these numbers are what tells which marks commute.
    flips = sum([1 << (number - cells) for number in numbers if number >= cells])
    signs = sum([1 << number for number in numbers if number < cells])
    return (ones(flips & signs) % 4, flips, signs)


def parting(rows, others):
    # Where all rows are marks of the other table, so are their products, and both tables have as many marks.
    for row in rows:
        if made_of(others, row, len(others))[:2] != ("made", 0):
            return row
    return None
