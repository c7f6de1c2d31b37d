"""Rows made shorter, step by step."""

from spinboard.moves import named_cells


def shortened(row):
    short = list(row)
    steps = []
    place = 0
    while place < len(short):
        step = step_at(short, place)
        if step is None:
            place = place + 1
        else:
            steps.append(step)
            short = short[:place] + step[2] + short[place + len(step[1]):]
            # Ahead of this place no step fitted. One that fits there now reaches this place by its third move at most.
            place = max(0, place - 2)
    return (short, steps)


def step_at(row, place):
    two = row[place:place + 2]
    put = put_for_two(two[0], two[1]) if len(two) == 2 else None
    if put is not None:
        return (place, two, put)
    three = row[place:place + 3]
    put = put_for_three(three[0], three[1], three[2]) if len(three) == 3 else None
    if put is not None:
        return (place, three, put)
    return None


def put_for_two(earlier, later):
    if is_turn_of(earlier, earlier[1]) and is_turn_of(later, earlier[1]):
        return turns_joined(earlier[1], earlier[2] + later[2])
    if in_one_order(earlier) == in_one_order(later):
        return []
    if goes_ahead(later, earlier):
        return [later, earlier]
    return None


def is_turn_of(move, cell):
    return move[0] == "turn" and move[1] == cell


def turns_joined(cell, k):
    return [] if k == 8 else [("turn", cell, k % 8)]


def in_one_order(move):
    if move[0] in ("pair", "swap"):
        return (move[0], min(move[1:]), max(move[1:]))
    if move[0] == "cross":
        return (move[0], move[1], min(move[2:]), max(move[2:]))
    return move


def goes_ahead(later, earlier):
    cells = named_cells(earlier)
    if not any([cell in cells for cell in named_cells(later)]):
        return min(named_cells(later)) < min(cells)
    if later[0] != "turn":
        return False
    return earlier[0] == "pair" or (earlier[0] == "if" and is_turn_of(later, earlier[1]))


def put_for_three(first, middle, last):
    cell = first[1]
    if first != ("mix", cell) or last != first:
        return None
    if middle == ("flip", cell):
        return [("turn", cell, 4)]
    if middle == ("turn", cell, 4):
        return [("flip", cell)]
    return None
