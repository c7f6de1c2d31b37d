"""What several tests need: things that are no whole numbers, and numbers to try."""

import random


class Odd:
    """A thing that answers no question about itself."""

    def __eq__(self, other):
        raise RuntimeError("not to be compared")

    def __bool__(self):
        raise RuntimeError("neither true nor false")

    def __len__(self):
        raise RuntimeError("not to be counted")

    def __index__(self):
        return 1


NOT_WHOLE = [
    True, False, None, "", "1", "12345", b"1", 1.0, 0.5, float("nan"), 1j, [], [1], (), (1,), (0, 0, 1),
    {}, {1: 1}, set(), frozenset([1]), range(3), int, Odd(), Odd, len,
]

GREAT = 10 ** 999 + 7


def numbers(seed, most=40):
    """An endless walk over whole numbers, small and great, below and above 0; the same walk for the same seed."""
    source = random.Random(seed)
    while True:
        bits = source.choice([0, 1, 2, 3, 8, most])
        yield source.randint(-(2 ** bits), 2 ** bits)
