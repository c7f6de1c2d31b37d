"""Holders: boards that are told moves and looks, kept by all amounts or by a table of marks."""

from spinboard.boards import check_beginning, heft, start
from spinboard.errors import NoMove, NotBorne
from spinboard.looks import check_look, looked, settled
from spinboard.moves import check_move
from spinboard.rows import run
from spinboard.shares import share_times
from spinboard.spreads import keepers, spread
from spinboard.tables import reduced
from spinboard.tableturns import SURE, is_borne, moved_rows, table_looked, table_settled


class Holder:
    # Each kind of holder adds turn_by, settle, shares_of, told_board, told_rows and twin.

    def __init__(self, cells, word):
        check_beginning(cells, word)
        self.cells = cells
        self.chance = SURE

    def take(self, move):
        self.take_row([move])

    def take_row(self, row):
        if not isinstance(row, list):
            raise NoMove("a row is a list of moves")
        self.turn_by(row)

    def keeps(self, mark):
        # Just where a mark leaves the board as it is, nothing is left for the outcome 1 of a look at it.
        return self.shares_of(mark)[0] == SURE


class AmountHolder(Holder):
    def __init__(self, cells, word=0):
        Holder.__init__(self, cells, word)
        self.board = start(cells, word)

    def turn_by(self, row):
        self.board = run(self.board, row)

    def settle(self, mark, outcome):
        self.board = settled(self.board, mark, outcome)
        # The board began with heft one, and no move changes it: so what is left of it is the share of all looks.
        self.chance = heft(self.board)

    def shares_of(self, mark):
        return looked(self.board, mark)

    def told_board(self):
        return list(self.board)

    def told_rows(self):
        return keepers(self.board)

    def twin(self):
        other = AmountHolder(self.cells)
        other.board = list(self.board)
        other.chance = self.chance
        return other


class SignHolder(Holder):
    def __init__(self, cells, word=0):
        Holder.__init__(self, cells, word)
        self.rows = rows_at_start(cells, word)

    def turn_by(self, row):
        check_turns(row, self.cells)
        self.rows = reduced(moved_rows(self.rows, row), self.cells)

    def settle(self, mark, outcome):
        part = self.shares_of(mark)[outcome]
        self.rows = table_settled(self.rows, mark, outcome)
        self.chance = share_times(self.chance, part)

    def shares_of(self, mark):
        check_look(mark, self.cells)
        return table_looked(self.rows, mark)

    def told_board(self):
        return spread(self.rows)

    def told_rows(self):
        return list(self.rows)

    def twin(self):
        other = SignHolder(self.cells)
        other.rows = list(self.rows)
        other.chance = self.chance
        return other


def rows_at_start(cells, word):
    # The sign of a cell leaves the beginning as it is, turned about where the word has the cell.
    return [(2 * ((word >> cell) & 1), 0, 1 << cell) for cell in range(cells)]


def check_turns(row, cells):
    # Move by move, so that the first one to be refused tells the refusal, for whatever it is refused.
    for place, move in enumerate(row):
        check_move(move, cells)
        if not is_borne(move):
            raise NotBorne(place)
