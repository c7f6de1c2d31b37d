"""Moves: tuples of a word and its numbers that turn a board."""

from spinboard.amounts import minus, plus, rooted, spun
from spinboard.boards import cells_of
from spinboard.errors import NoCell, NoMove
from spinboard.shares import is_whole

# How many numbers stand behind each word; they are cells, but for the last one of a turn.
NUMBERS_BEHIND = {"flip": 1, "mix": 1, "turn": 2, "if": 2, "pair": 2, "swap": 2, "cross": 3}


def check_move(move, cells):
    if not has_move_form(move):
        raise NoMove("this is none of the moves")
    named = named_cells(move)
    if any([cell < 0 or cell >= cells for cell in named]):
        raise NoCell("the board has no such cell")
    if len(set(named)) != len(named):
        raise NoCell("a move names no cell twice")
    return move


def has_move_form(thing):
    if not isinstance(thing, tuple) or len(thing) == 0:
        return False
    # Asked first, as a thing that is no text may not bear to be looked for in a dict.
    if not isinstance(thing[0], str) or thing[0] not in NUMBERS_BEHIND:
        return False
    if len(thing) != 1 + NUMBERS_BEHIND[thing[0]]:
        return False
    if not all([is_whole(number) for number in thing[1:]]):
        return False
    return thing[0] != "turn" or (thing[2] >= 1 and thing[2] <= 7)


def named_cells(move):
    return move[1:2] if move[0] == "turn" else move[1:]


def turned(board, move):
    check_move(move, cells_of(board))
    if move[0] == "mix":
        return mixed(board, 1 << move[1])
    if move[0] == "turn":
        return spun_where(board, 1 << move[1], move[2])
    if move[0] == "pair":
        return spun_where(board, (1 << move[1]) | (1 << move[2]), 4)
    # Each of the others undoes itself, so the word that an amount goes to is the one whose amount comes.
    return [board[word_behind(word, move)] for word in range(len(board))]


def mixed(board, bit):
    return [mixed_at(board, word, bit) for word in range(len(board))]


def mixed_at(board, word, bit):
    if word & bit:
        return rooted(minus(board[word ^ bit], board[word]))
    return rooted(plus(board[word], board[word | bit]))


def spun_where(board, bits, k):
    return [spun(one, k) if (word & bits) == bits else one for word, one in enumerate(board)]


def word_behind(word, move):
    bits = [1 << cell for cell in named_cells(move)]
    if move[0] == "flip":
        return word ^ bits[0]
    if move[0] == "swap":
        return exchanged(word, bits[0], bits[1])
    if not word & bits[0]:
        return word
    if move[0] == "if":
        return word ^ bits[1]
    return exchanged(word, bits[1], bits[2])


def exchanged(word, bit, other):
    both = bit | other
    # A word that has both cells, or neither, stays the same when they change places.
    return word ^ both if (word & both) in (bit, other) else word


def back_move(move):
    if move[0] == "turn":
        return ("turn", move[1], 8 - move[2])
    return move
