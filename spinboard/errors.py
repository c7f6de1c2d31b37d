"""The refusals of the program, one class for each."""


class BoardError(ValueError):
    pass


class NoShare(BoardError):
    pass


class NoAmount(BoardError):
    pass


class NoMark(BoardError):
    pass


class NoBoard(BoardError):
    pass


class NoMove(BoardError):
    pass


class NoCell(BoardError):
    pass


class NeverSo(BoardError):
    pass


class NoTable(BoardError):
    pass


class NoText(BoardError):
    def __init__(self, place):
        self.place = place


class NotBorne(BoardError):
    def __init__(self, place):
        self.place = place


class Unguarded(BoardError):
    def __init__(self, one, other):
        self.one = one
        self.other = other
