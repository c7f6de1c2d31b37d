"""Sums of marks: what a mark behind a row does, told ahead of the row, odd turns among its moves, too."""

from spinboard.amounts import minus, plus, real_share, spun, times
from spinboard.boards import NOUGHT, ONE
from spinboard.errors import NotBorne
from spinboard.looks import halved
from spinboard.marks import ones
from spinboard.moves import back_move
from spinboard.shares import share_plus, share_times
from spinboard.tableturns import HALF, SURE, is_odd_turn, moved_by

MOST_ODD_TURNS = 6


def back_sum(mark, row):
    check_summed(row)
    terms = [(ONE, mark)]
    for move in reversed(row):
        terms = terms_ahead(terms, move)
    return gathered(terms)


def check_summed(row):
    odd_turns = 0
    for place, move in enumerate(row):
        if is_odd_turn(move):
            odd_turns = odd_turns + 1
        if move[0] == "cross" or odd_turns > MOST_ODD_TURNS:
            raise NotBorne(place)


def terms_ahead(terms, move):
    if is_odd_turn(move):
        return terms_ahead_of_odd_turn(terms, 1 << move[1], move[2])
    # What stands ahead of a move is what comes of the mark behind it when the move is undone.
    back = back_move(move)
    return [(one, moved_by(mark, back)) for one, mark in terms]


def terms_ahead_of_odd_turn(terms, bit, k):
    # A flip of the turned cell spins by k less the words without the cell, and by k more those with it. That is the
    # sum of half of both spins for all words and, with the cell's sign, half of what the one is more than the other.
    for_all = halved(plus(spun(ONE, -k), spun(ONE, k)))
    for_sign = halved(minus(spun(ONE, -k), spun(ONE, k)))
    ahead = []
    for one, mark in terms:
        if mark[1] & bit:
            ahead.append((times(one, for_all), mark))
            ahead.append((times(one, for_sign), (mark[0], mark[1], mark[2] ^ bit)))
        else:
            ahead.append((one, mark))
    return ahead


def gathered(terms):
    totals = {}
    for one, mark in terms:
        words = mark[1:]
        # The q that the list is to tell is that of the b alone; what is more or less goes to the amount.
        unspun = spun(one, 2 * (mark[0] - ones(mark[1] & mark[2])))
        totals[words] = plus(totals.get(words, NOUGHT), unspun)
    left = [words for words in sorted(totals) if totals[words] != NOUGHT]
    return [(totals[(f, s)], (ones(f & s) % 4, f, s)) for f, s in left]


def sum_share(word, row, mark):
    total = NOUGHT
    for one, each in back_sum(mark, row):
        # A mark with flips leads from the word to another one, so it has no part in what the word shows.
        if each[1] == 0:
            total = plus(total, spun(one, 4 * ones(word & each[2])))
    return share_times(HALF, share_plus(SURE, real_share(total)))
