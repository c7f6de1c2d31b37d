"""The desk: all ways in which a play can come to its end."""

from spinboard.errors import NotBorne
from spinboard.holders import AmountHolder, SignHolder
from spinboard.plays import read_play
from spinboard.shares import show_share
from spinboard.tableturns import NEVER, borne


def ends(text, by_signs=False):
    play = read_play(text)
    if by_signs:
        check_parts(play[1])
    ways = [((), SignHolder(play[0]) if by_signs else AmountHolder(play[0]))]
    row = []
    for part in play[1]:
        if part[0] == "look":
            ways = ways_behind(ways, row, part[1])
            row = []
        else:
            # Kept until the next look, as many moves are taken in one row faster than one by one.
            row.append(part)
    take_all(ways, row)
    return [(outs, holder.chance, holder) for outs, holder in ways]


def check_parts(parts):
    place = borne(parts)
    if place is not None:
        raise NotBorne(place + 1)


def ways_behind(ways, row, mark):
    take_all(ways, row)
    further = []
    for outs, holder in ways:
        shares = holder.shares_of(mark)
        for outcome in (0, 1):
            if shares[outcome] != NEVER:
                further.append((outs + (outcome,), settled_twin(holder, mark, outcome)))
    return further


def take_all(ways, row):
    for outs, holder in ways:
        holder.take_row(row)


def settled_twin(holder, mark, outcome):
    twin = holder.twin()
    twin.settle(mark, outcome)
    return twin


def tell(text, by_signs=False):
    return "\n".join([show_end(outs, part) for outs, part, holder in ends(text, by_signs)])


def show_end(outs, part):
    figures = "".join([str(out) for out in outs])
    return (figures if figures != "" else "-") + " " + show_share(part)
