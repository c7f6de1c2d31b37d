"""Lists of equations over binary places."""

from spinboard.marks import ones


def solved(equations):
    # By the highest binary place of its mask: a tuple (mask, bit, those of the equations that it is the sum of).
    kept = {}
    for place, equation in enumerate(equations):
        left = cleared((equation[0], equation[1], 1 << place), kept)
        if left[0] != 0:
            kept[left[0].bit_length()] = left
        elif left[1] == 1:
            return (None, places_at_one(left[2]))
    return (solution(kept), None)


def cleared(equation, kept):
    left = equation
    while left[0].bit_length() in kept:
        other = kept[left[0].bit_length()]
        left = (left[0] ^ other[0], left[1] ^ other[1], left[2] ^ other[2])
    return left


def places_at_one(number):
    return [place for place in range(number.bit_length()) if (number >> place) & 1]


def solution(kept):
    x = 0
    # From the lowest on: a mask's own highest place sets its equation right and meets no mask that came ahead of it.
    for height in sorted(kept):
        equation = kept[height]
        if ones(equation[0] & x) % 2 != equation[1]:
            x = x | (1 << (height - 1))
    return x
