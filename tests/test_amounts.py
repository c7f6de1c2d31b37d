import inspect
import itertools
import unittest
from fractions import Fraction

from spinboard import amounts
from spinboard.amounts import (
    amount, is_amount, minus, mirror, plus, real_share, rooted, spun, times, weight,
)
from spinboard.errors import NoAmount, NoShare
from spinboard.shares import share, share_plus, share_times
from tests.helper import GREAT, NOT_WHOLE, numbers, worth, worth_times

NOUGHT = (0, 0, 0, 0, 0)
ONE = (1, 0, 0, 0, 0)
EIGHTH = (0, 1, 0, 0, 0)
ROOT = (0, 1, 0, -1, 0)


def some_amounts(seed, many, most=40):
    walk = numbers(seed, most)
    made = [amount(next(walk), next(walk), next(walk), next(walk), abs(next(walk)) % 7) for _ in range(many)]
    return made + [NOUGHT, ONE, EIGHTH, ROOT, (-1, 0, 0, 0, 0), (1, 1, 1, 1, 1), (2, 4, 6, 8, 0)]


def great_amounts():
    return [
        amount(GREAT, -GREAT, 3, GREAT + 1, 1000),
        amount(-GREAT, 1, GREAT - 1, 0, 0),
        amount(1, 0, 0, 0, 1000),
        amount(2 ** 999, 2 ** 1001, 0, -(2 ** 1000), 1000),
    ]


class AmountCase(unittest.TestCase):
    def assert_amount(self, thing):
        self.assertIs(type(thing), tuple)
        self.assertEqual([type(part) for part in thing], [int] * 5)
        self.assertGreaterEqual(thing[4], 0)
        self.assertTrue(thing[4] == 0 or any(part % 2 for part in thing[:4]), thing)
        self.assertIs(is_amount(thing), True)

    def assert_worth(self, thing, asked):
        self.assert_amount(thing)
        self.assertEqual(worth(thing), asked)


class Interface(unittest.TestCase):
    def test_names_arguments_and_defaults(self):
        asked = {
            "is_amount": "(thing)", "amount": "(a, b=0, c=0, d=0, h=0)", "plus": "(one, other)",
            "minus": "(one, other)", "times": "(one, other)", "spun": "(one, k)", "mirror": "(one)",
            "rooted": "(one)", "weight": "(one)", "real_share": "(one)",
        }
        for name, arguments in asked.items():
            self.assertEqual(str(inspect.signature(getattr(amounts, name))), arguments, name)


class Amount(AmountCase):
    def test_ordinary_ones(self):
        self.assertEqual(amount(1, 2, 3, 4, 5), (1, 2, 3, 4, 5))
        self.assertEqual(amount(2, 4, 6, 8, 1), (1, 2, 3, 4, 0))
        self.assertEqual(amount(2, 4, 6, 8, 0), (2, 4, 6, 8, 0))
        self.assertEqual(amount(4, 8, -12, 16, 5), (1, 2, -3, 4, 3))
        self.assertEqual(amount(8, 0, 0, 0, 2), (2, 0, 0, 0, 0))
        self.assertEqual(amount(0, 0, 0, -6, 1), (0, 0, 0, -3, 0))
        self.assertEqual(amount(-2, 0, 0, 0, 1), (-1, 0, 0, 0, 0))

    def test_what_is_left_out(self):
        self.assertEqual(amount(7), (7, 0, 0, 0, 0))
        self.assertEqual(amount(7, 1), (7, 1, 0, 0, 0))
        self.assertEqual(amount(7, 1, 2), (7, 1, 2, 0, 0))
        self.assertEqual(amount(7, 1, 2, 3), (7, 1, 2, 3, 0))
        self.assertEqual(amount(4, h=3), (1, 0, 0, 0, 1))
        self.assertEqual(amount(d=4, c=3, b=2, a=1, h=6), (1, 2, 3, 4, 6))

    def test_one_odd_part_anywhere_keeps_the_halvings(self):
        for place in range(4):
            for odd in [1, -1, 3, -GREAT]:
                parts = [4, -8, 0, 16]
                parts[place] = odd
                self.assertEqual(amount(*parts, 3), tuple(parts) + (3,))

    def test_nought_whatever_the_halvings(self):
        for h in [0, 1, 2, 7, 999, 1000, GREAT]:
            self.assertEqual(amount(0, 0, 0, 0, h), NOUGHT)

    def test_every_small_one_has_its_form_and_worth(self):
        for parts in itertools.product([-4, -3, -2, 0, 1, 4], repeat=4):
            for h in range(4):
                self.assert_worth(amount(*parts, h), [Fraction(part, 2 ** h) for part in parts])

    def test_great_numbers(self):
        self.assertEqual(amount(GREAT, -GREAT, 0, 0, 1000), (GREAT, -GREAT, 0, 0, 1000))
        self.assertEqual(amount(2 ** 1000, 0, -(2 ** 1001), 0, 1000), (1, 0, -2, 0, 0))
        self.assertEqual(amount(2 ** 998, 0, -(2 ** 1001), 0, 1000), (1, 0, -8, 0, 2))
        self.assertEqual(amount(0, 2 ** 3000, 0, 0, 1000), (0, 2 ** 2000, 0, 0, 0))

    def test_made_of_an_amount_it_is_the_amount(self):
        for one in some_amounts(11, 60) + great_amounts():
            self.assertEqual(amount(*one), one)

    def test_what_is_no_whole_number_is_refused_at_each_place(self):
        for thing in NOT_WHOLE:
            for place in range(5):
                for parts in [[1, 2, 3, 4, 5], [0, 0, 0, 0, 0]]:
                    parts[place] = thing
                    with self.assertRaises(NoAmount):
                        amount(*parts)
            with self.assertRaises(NoAmount):
                amount(thing)

    def test_halvings_below_nought_are_refused(self):
        for parts in [(0, 0, 0, 0), (1, 0, 0, 0), (2, 4, 6, 8)]:
            for h in [-1, -2, -1000, -GREAT]:
                with self.assertRaises(NoAmount):
                    amount(*parts, h)

    def test_a_refused_list_stays_as_it_was(self):
        handed = [1, 2, 3, 4, 5]
        with self.assertRaises(NoAmount):
            amount(handed)
        self.assertEqual(handed, [1, 2, 3, 4, 5])


class IsAmount(unittest.TestCase):
    def test_amounts(self):
        for thing in some_amounts(12, 40) + great_amounts() + [(0, 0, 0, 3, 9), (0, 2, -1, 0, 1000), (2, 2, 2, 2, 0)]:
            self.assertIs(is_amount(thing), True)

    def test_tuples_too_short_and_too_long(self):
        for thing in [(), (1,), (1, 2, 3, 4), (1, 0, 0, 0, 0, 0), (1, 1, 1, 1, 1, 1)]:
            self.assertIs(is_amount(thing), False)

    def test_lists_and_other_kinds(self):
        for thing in [[1, 0, 0, 0, 0], [0, 0, 0, 0, 0], "10000", {0: 1, 1: 1, 2: 1, 3: 1, 4: 1}, range(5), 5]:
            self.assertIs(is_amount(thing), False)
        for thing in NOT_WHOLE:
            self.assertIs(is_amount(thing), False)

    def test_parts_that_are_no_whole_numbers(self):
        for thing in NOT_WHOLE:
            for place in range(5):
                for parts in [[1, 1, 1, 1, 1], [0, 0, 0, 0, 0]]:
                    parts[place] = thing
                    self.assertIs(is_amount(tuple(parts)), False)

    def test_halvings_below_nought(self):
        for thing in [(1, 0, 0, 0, -1), (0, 0, 0, 0, -1), (1, 3, 5, 7, -GREAT)]:
            self.assertIs(is_amount(thing), False)

    def test_four_even_parts_with_halvings(self):
        for thing in [(0, 0, 0, 0, 1), (2, 0, 0, 0, 1), (2, -4, 6, 8, 3), (-2, -2, -2, -2, 1000)]:
            self.assertIs(is_amount(thing), False)


class Reckoning(AmountCase):
    def pairs(self):
        return itertools.product(some_amounts(13, 16) + great_amounts(), repeat=2)

    def test_told_ones(self):
        self.assertEqual(plus((1, 0, 0, 0, 1), (1, 0, 0, 0, 1)), ONE)
        self.assertEqual(plus((1, 0, 0, 0, 0), (0, 1, 0, 0, 2)), (4, 1, 0, 0, 2))
        self.assertEqual(minus((3, 1, 0, 0, 2), (1, 1, 0, 2, 2)), (1, 0, 0, -1, 1))
        self.assertEqual(minus(ONE, ONE), NOUGHT)
        self.assertEqual(minus((1, 1, 1, 1, 5), (1, 1, 1, 1, 5)), NOUGHT)
        self.assertEqual(times(ROOT, ROOT), (2, 0, 0, 0, 0))
        self.assertEqual(times((0, 0, 1, 0, 0), (0, 0, 1, 0, 0)), (-1, 0, 0, 0, 0))
        self.assertEqual(times(EIGHTH, (0, 0, 0, 1, 0)), (-1, 0, 0, 0, 0))
        self.assertEqual(times((1, 2, 3, 4, 1), (5, 6, 7, 8, 2)), (-28, -18, 1, 30, 2))
        self.assertEqual(times((1, 2, 3, 4, 1), (5, 6, 7, 9, 2)), (-58, -39, -2, 61, 3))

    def test_sums_and_differences(self):
        for one, other in self.pairs():
            self.assert_worth(plus(one, other), [x + y for x, y in zip(worth(one), worth(other))])
            self.assert_worth(minus(one, other), [x - y for x, y in zip(worth(one), worth(other))])

    def test_products(self):
        for one, other in self.pairs():
            self.assert_worth(times(one, other), worth_times(worth(one), worth(other)))

    def test_asked_again_it_tells_the_same(self):
        for reckon in [plus, minus, times]:
            self.assertEqual(reckon((3, 1, 4, 1, 5), (9, 2, 6, 5, 3)), reckon((3, 1, 4, 1, 5), (9, 2, 6, 5, 3)))


class Spun(AmountCase):
    def test_told_ones(self):
        one = (1, 2, 3, 4, 5)
        asked = [
            (1, 2, 3, 4, 5), (-4, 1, 2, 3, 5), (-3, -4, 1, 2, 5), (-2, -3, -4, 1, 5),
            (-1, -2, -3, -4, 5), (4, -1, -2, -3, 5), (3, 4, -1, -2, 5), (2, 3, 4, -1, 5),
        ]
        for k in range(8):
            self.assertEqual(spun(one, k), asked[k])
            self.assertEqual(spun(one, k - 8), asked[k])

    def test_it_is_the_product_with_the_eighth_so_often(self):
        for one in some_amounts(14, 20) + great_amounts():
            told = worth(one)
            for k in range(20):
                self.assert_worth(spun(one, k), told)
                told = worth_times(told, worth(EIGHTH))

    def test_below_nought_it_undoes(self):
        for one in some_amounts(15, 20):
            for k in [1, 2, 3, 7, 8, 9, 12345, GREAT]:
                self.assertEqual(spun(spun(one, k), -k), one)
                self.assertEqual(spun(spun(one, -k), k), one)

    def test_eight_more_or_less_is_the_same(self):
        one = (5, -6, 7, 0, 3)
        for k in [0, 1, 3, 6, -1, -5, 10 ** 999, -(10 ** 999) + 3, GREAT]:
            self.assertEqual(spun(one, k + 8), spun(one, k))
            self.assertEqual(spun(one, k - 8), spun(one, k))

    def test_many_figures(self):
        one = (1, 2, 3, 4, 5)
        self.assertEqual(spun(one, 8 * GREAT), one)
        self.assertEqual(spun(one, 8 * GREAT + 1), (-4, 1, 2, 3, 5))
        self.assertEqual(spun(one, -8 * GREAT - 1), (2, 3, 4, -1, 5))

    def test_nought_stays_nought(self):
        for k in range(-8, 9):
            self.assertEqual(spun(NOUGHT, k), NOUGHT)


class Mirror(AmountCase):
    def test_told_ones(self):
        self.assertEqual(mirror((1, 2, 3, 4, 5)), (1, -4, -3, -2, 5))
        self.assertEqual(mirror(EIGHTH), (0, 0, 0, -1, 0))
        self.assertEqual(mirror(ROOT), ROOT)
        self.assertEqual(mirror(NOUGHT), NOUGHT)

    def test_twice_it_is_nothing_and_it_goes_with_products(self):
        for one, other in itertools.product(some_amounts(16, 12) + great_amounts(), repeat=2):
            self.assert_amount(mirror(one))
            self.assertEqual(mirror(mirror(one)), one)
            self.assertEqual(mirror(times(one, other)), times(mirror(one), mirror(other)))


class Rooted(AmountCase):
    def test_told_ones(self):
        self.assertEqual(rooted(ONE), (0, 1, 0, -1, 1))
        self.assertEqual(rooted(ROOT), ONE)
        self.assertEqual(rooted((2, 0, 0, 0, 0)), ROOT)
        self.assertEqual(rooted(NOUGHT), NOUGHT)
        self.assertEqual(rooted((1, 2, 3, 5, 1)), (-3, 4, 7, 2, 2))

    def test_times_the_root_it_is_the_one_again(self):
        for one in some_amounts(17, 80) + great_amounts():
            told = rooted(one)
            self.assert_amount(told)
            self.assertEqual(times(told, ROOT), one)
            self.assertEqual(worth_times(worth(told), worth(ROOT)), worth(one))


class Weight(AmountCase):
    def test_told_ones(self):
        self.assertEqual(weight(ONE), (1, 0, 1))
        self.assertEqual(weight(NOUGHT), (0, 0, 1))
        self.assertEqual(weight(ROOT), (2, 0, 1))
        self.assertEqual(weight((0, 1, 0, -1, 1)), (1, 0, 2))
        self.assertEqual(weight((1, 1, 0, 0, 0)), (2, 1, 1))
        self.assertEqual(weight((1, 0, 0, 1, 0)), (2, -1, 1))
        self.assertEqual(weight((1, 2, 3, 4, 1)), (15, 8, 2))

    def test_it_is_the_product_with_the_mirror(self):
        for one in some_amounts(18, 60) + great_amounts():
            told = weight(one)
            a, b, c, d = worth_times(worth(one), worth(mirror(one)))
            self.assertEqual((c, d), (0, -b))
            self.assertEqual((Fraction(told[0], told[2]), Fraction(told[1], told[2])), (a, b))
            self.assertEqual(told, share(*told))
            self.assertEqual(told, real_share(times(one, mirror(one))))

    def test_spinning_does_not_change_it_and_it_goes_with_products(self):
        for one, other in itertools.product(some_amounts(19, 8), repeat=2):
            self.assertEqual(weight(spun(one, 3)), weight(one))
            self.assertEqual(weight(times(one, other)), share_times(weight(one), weight(other)))


class RealShare(AmountCase):
    def test_told_ones(self):
        self.assertEqual(real_share(ONE), (1, 0, 1))
        self.assertEqual(real_share(NOUGHT), (0, 0, 1))
        self.assertEqual(real_share(ROOT), (0, 1, 1))
        self.assertEqual(real_share((0, 1, 0, -1, 1)), (0, 1, 2))
        self.assertEqual(real_share((-3, -5, 0, 5, 4)), (-3, -5, 16))
        self.assertEqual(real_share((6, 0, 0, 0, 0)), (6, 0, 1))
        self.assertEqual(real_share((GREAT, 4, 0, -4, 1000)), (GREAT, 4, 2 ** 1000))

    def test_it_goes_with_sums_and_products(self):
        walk = numbers(20)
        some = [next(walk) for _ in range(60)]
        real = [amount(p, q, 0, -q, h) for p, q, h in zip(some[::2], some[1::2], itertools.cycle([0, 1, 3]))]
        for one, other in itertools.product(real, repeat=2):
            self.assertEqual(real_share(plus(one, other)), share_plus(real_share(one), real_share(other)))
            self.assertEqual(real_share(times(one, other)), share_times(real_share(one), real_share(other)))

    def test_any_other_one_is_refused(self):
        others = [
            EIGHTH, (0, 0, 1, 0, 0), (0, 0, 0, 1, 0), (1, 1, 0, 1, 0), (1, 1, 0, 0, 0), (1, 0, 0, -1, 0),
            (1, 1, 1, -1, 0), (0, 2, 1, -2, 3), (GREAT, GREAT, 0, GREAT, 1), (0, 1, 0, -3, 2),
        ]
        for one in others:
            with self.assertRaises(NoShare):
                real_share(one)

    def test_it_is_told_just_of_those_that_are_their_own_mirror(self):
        for parts in itertools.product(range(-1, 2), repeat=4):
            one = amount(*parts, 1)
            if mirror(one) == one:
                self.assertEqual(real_share(one), share(parts[0], parts[1], 2))
            else:
                with self.assertRaises(NoShare):
                    real_share(one)


if __name__ == "__main__":
    unittest.main()
