import inspect
import itertools
import math
import unittest
from fractions import Fraction

from spinboard import shares
from spinboard.errors import NoAmount, NoShare
from spinboard.shares import (
    is_whole, share, share_minus, share_over, share_plus, share_times, share_under, show_share,
)
from tests.helper import GREAT, NOT_WHOLE, numbers

NOUGHT = (0, 0, 1)
ONE = (1, 0, 1)
ROOT = (0, 1, 1)


def as_fractions(one):
    return (Fraction(one[0], one[2]), Fraction(one[1], one[2]))


def some_shares(seed, many, most=40):
    walk = numbers(seed, most)
    return [share(next(walk), next(walk), next(walk) or 1) for _ in range(many)]


def floor_of(one, places):
    """The floor of a share times 10 ** places, by whole roots alone."""
    scale = 10 ** places
    square = 2 * (one[1] * scale) ** 2
    rooted = math.isqrt(square) if one[1] >= 0 else -math.isqrt(square - 1) - 1
    return (one[0] * scale + rooted) // one[2]


def power_of_one_plus_root(k):
    """(p, q) with p + q root = (1 + root) ** k; then p - q root is (1 - root) ** k, very close to nought."""
    p, q = 1, 0
    for _ in range(k):
        p, q = p + 2 * q, p + q
    return p, q


class ShareCase(unittest.TestCase):
    def assert_share(self, thing):
        self.assertIs(type(thing), tuple)
        self.assertEqual([type(part) for part in thing], [int, int, int])
        self.assertGreaterEqual(thing[2], 1)
        self.assertEqual(math.gcd(*thing), 1)

    def assert_worth(self, thing, worth):
        self.assert_share(thing)
        self.assertEqual(as_fractions(thing), worth)


class Interface(unittest.TestCase):
    def test_names_arguments_and_defaults(self):
        asked = {
            "is_whole": "(thing)", "share": "(top, root=0, bottom=1)", "share_plus": "(one, other)",
            "share_minus": "(one, other)", "share_times": "(one, other)", "share_over": "(one, other)",
            "share_under": "(one, other)", "show_share": "(one)",
        }
        for name, arguments in asked.items():
            self.assertEqual(str(inspect.signature(getattr(shares, name))), arguments, name)


class IsWhole(unittest.TestCase):
    def test_whole_numbers(self):
        for number in [0, 1, -1, 2, 10, -10, 2 ** 64, GREAT, -GREAT, GREAT ** 20]:
            self.assertIs(is_whole(number), True)

    def test_anything_else(self):
        for thing in NOT_WHOLE:
            self.assertIs(is_whole(thing), False)


class Share(ShareCase):
    def test_ordinary_ones(self):
        self.assertEqual(share(1, 0, 2), (1, 0, 2))
        self.assertEqual(share(3, 5, 7), (3, 5, 7))
        self.assertEqual(share(2, 3, 2), (2, 3, 2))
        self.assertEqual(share(4, 4, 6), (2, 2, 3))
        self.assertEqual(share(12, -18, 30), (2, -3, 5))

    def test_what_is_left_out(self):
        self.assertEqual(share(5), (5, 0, 1))
        self.assertEqual(share(5, 2), (5, 2, 1))
        self.assertEqual(share(5, bottom=10), (1, 0, 2))
        self.assertEqual(share(root=4, top=0, bottom=2), (0, 2, 1))

    def test_a_bottom_below_nought(self):
        self.assertEqual(share(1, 0, -2), (-1, 0, 2))
        self.assertEqual(share(-3, 5, -7), (3, -5, 7))
        self.assertEqual(share(-4, -6, -2), (2, 3, 1))
        self.assertEqual(share(1, 1, -1), (-1, -1, 1))

    def test_tops_and_roots_below_nought(self):
        self.assertEqual(share(-1, 0, 2), (-1, 0, 2))
        self.assertEqual(share(-4, -6, 8), (-2, -3, 4))
        self.assertEqual(share(0, -9, 6), (0, -3, 2))

    def test_nought_is_one_tuple(self):
        for bottom in [1, 2, -1, -6, GREAT, -GREAT]:
            self.assertEqual(share(0, 0, bottom), NOUGHT)
        self.assertEqual(share(0), NOUGHT)

    def test_every_small_one_has_its_form_and_worth(self):
        for top, root, bottom in itertools.product(range(-6, 7), range(-6, 7), range(-6, 7)):
            if bottom != 0:
                told = share(top, root, bottom)
                self.assert_worth(told, (Fraction(top, bottom), Fraction(root, bottom)))

    def test_numbers_of_a_thousand_figures(self):
        self.assertEqual(share(GREAT, -GREAT, GREAT), (1, -1, 1))
        self.assertEqual(share(-2 * GREAT, 3 * GREAT, -5 * GREAT), (2, -3, 5))
        told = share(10 ** 999, 6 ** 1200, -(10 ** 900) * 3)
        self.assert_worth(told, (Fraction(10 ** 999, -(10 ** 900) * 3), Fraction(6 ** 1200, -(10 ** 900) * 3)))
        told = share(GREAT, GREAT + 1, GREAT + 2)
        self.assert_worth(told, (Fraction(GREAT, GREAT + 2), Fraction(GREAT + 1, GREAT + 2)))

    def test_made_of_a_share_it_is_the_share(self):
        for one in some_shares(1, 50):
            self.assertEqual(share(one[0], one[1], one[2]), one)

    def test_the_bottom_nought_is_refused(self):
        for top, root in [(0, 0), (1, 0), (0, 1), (-3, 4), (GREAT, GREAT)]:
            with self.assertRaises(NoShare):
                share(top, root, 0)

    def test_what_is_no_whole_number_is_refused_at_each_place(self):
        for thing in NOT_WHOLE:
            for handed in [(thing,), (thing, 1, 1), (1, thing), (1, thing, 2), (1, 1, thing), (thing, thing, thing)]:
                with self.assertRaises(NoShare):
                    share(*handed)
        with self.assertRaises(NoShare):
            share("1", 0, 0)

    def test_a_refused_list_stays_as_it_was(self):
        handed = [1, 2]
        with self.assertRaises(NoShare):
            share(1, handed)
        self.assertEqual(handed, [1, 2])

    def test_no_share_is_not_no_amount(self):
        self.assertFalse(issubclass(NoShare, NoAmount))


class Reckoning(ShareCase):
    def pairs(self):
        some = some_shares(2, 18) + [NOUGHT, ONE, ROOT, (-1, 0, 1), (1, -1, 1), (0, 1, 2)]
        great = [(GREAT, -GREAT + 1, GREAT + 4), (-GREAT, 1, 2), (1, 2, GREAT)]
        return itertools.product(some + great, repeat=2)

    def test_told_ones(self):
        self.assertEqual(share_plus((1, 0, 2), (1, 0, 2)), ONE)
        self.assertEqual(share_plus((1, 1, 3), (1, -1, 6)), (3, 1, 6))
        self.assertEqual(share_minus((1, 0, 2), (1, 0, 3)), (1, 0, 6))
        self.assertEqual(share_minus((1, 0, 3), (1, 0, 2)), (-1, 0, 6))
        self.assertEqual(share_times(ROOT, ROOT), (2, 0, 1))
        self.assertEqual(share_times((1, 1, 1), (1, -1, 1)), (-1, 0, 1))
        self.assertEqual(share_times((1, 2, 3), (5, 7, 4)), (33, 17, 12))
        self.assertEqual(share_over(ONE, ROOT), (0, 1, 2))
        self.assertEqual(share_over(ONE, (1, 1, 1)), (-1, 1, 1))
        self.assertEqual(share_over((1, 0, 2), (-1, 0, 3)), (-3, 0, 2))

    def test_sums_and_differences(self):
        for one, other in self.pairs():
            p, q = as_fractions(one)
            r, s = as_fractions(other)
            self.assert_worth(share_plus(one, other), (p + r, q + s))
            self.assert_worth(share_minus(one, other), (p - r, q - s))

    def test_products(self):
        for one, other in self.pairs():
            p, q = as_fractions(one)
            r, s = as_fractions(other)
            self.assert_worth(share_times(one, other), (p * r + 2 * q * s, p * s + q * r))

    def test_quotients_times_what_they_were_divided_by(self):
        for one, other in self.pairs():
            if other != NOUGHT:
                told = share_over(one, other)
                self.assert_share(told)
                self.assertEqual(share_times(told, other), one)

    def test_nought_and_itself(self):
        for one in some_shares(3, 30):
            self.assertEqual(share_minus(one, one), NOUGHT)
            self.assertEqual(share_times(one, NOUGHT), NOUGHT)
            self.assertEqual(share_plus(one, NOUGHT), one)
            if one != NOUGHT:
                self.assertEqual(share_over(one, one), ONE)
                self.assertEqual(share_over(NOUGHT, one), NOUGHT)

    def test_over_nought_is_refused(self):
        for one in [NOUGHT, ONE, ROOT, (-3, 2, 5), (GREAT, 1, GREAT)]:
            with self.assertRaises(NoShare):
                share_over(one, NOUGHT)

    def test_over_a_share_close_to_nought(self):
        p, q = power_of_one_plus_root(401)
        self.assertEqual(share_over(ONE, (p, -q, 1)), (-p, -q, 1))

    def test_asked_again_it_tells_the_same(self):
        for reckon in [share_plus, share_minus, share_times, share_over, share_under]:
            self.assertEqual(reckon((3, -2, 7), (5, 1, 4)), reckon((3, -2, 7), (5, 1, 4)))


class Under(unittest.TestCase):
    def assert_under(self, one, other):
        self.assertIs(share_under(one, other), True)
        self.assertIs(share_under(other, one), False)

    def test_told_ones(self):
        self.assert_under((1, 0, 3), (1, 0, 2))
        self.assert_under((-1, 0, 2), (-1, 0, 3))
        self.assert_under(NOUGHT, ONE)
        self.assert_under((-1, 0, 1), NOUGHT)
        self.assert_under(ONE, ROOT)
        self.assert_under(ROOT, (3, 0, 2))
        self.assert_under((7, 0, 5), ROOT)
        self.assert_under((0, -1, 1), (-7, 0, 5))
        self.assert_under((3, -2, 1), (1, 0, 5))
        self.assert_under(NOUGHT, (3, -2, 1))
        self.assert_under((-3, 2, 1), NOUGHT)
        self.assert_under((7, -5, 1), NOUGHT)
        self.assert_under(NOUGHT, (-7, 5, 1))
        self.assert_under(NOUGHT, ROOT)
        self.assert_under((0, -1, 1), NOUGHT)

    def test_none_is_under_itself(self):
        for one in some_shares(4, 60) + [NOUGHT, (GREAT, -GREAT + 1, 3)]:
            self.assertIs(share_under(one, one), False)

    def test_every_two_small_ones(self):
        some = sorted({share(p, q, n) for p in range(-4, 5) for q in range(-4, 5) for n in (1, 2, 3)})
        worth = {one: floor_of(one, 30) for one in some}
        self.assertEqual(len(set(worth.values())), len(some))
        for one, other in itertools.product(some, repeat=2):
            self.assertIs(share_under(one, other), worth[one] < worth[other])

    def test_very_close_to_nought_with_hundreds_of_figures(self):
        for k in [1, 2, 3, 10, 11, 500, 501, 1000, 1001, 2200, 2201]:
            p, q = power_of_one_plus_root(k)
            for n in [1, 3, GREAT]:
                close = share(p, -q, n)
                across = share(-p, q, n)
                if k % 2 == 1:
                    close, across = across, close
                self.assert_under(NOUGHT, close)
                self.assert_under(across, NOUGHT)
                self.assert_under(across, close)

    def test_very_close_together(self):
        p, q = power_of_one_plus_root(1200)
        self.assertGreater(len(str(p)), 400)
        self.assert_under((0, q, 1), (p, 0, 1))
        self.assert_under(ROOT, (p, 0, q))
        self.assert_under((-p, 0, q), (0, -1, 1))
        further, other_q = power_of_one_plus_root(1202)
        self.assert_under((further, 0, other_q), (p, 0, q))
        self.assert_under((p + 5, -q, 3), (5 * 10 ** 300 + 1, 0, 3 * 10 ** 300))
        self.assert_under((GREAT, 0, GREAT + 1), (GREAT + 1, 0, GREAT + 2))
        self.assert_under((5 * GREAT, -7, GREAT), (5 * GREAT, 7, GREAT))

    def test_long_ones_of_unlike_signs(self):
        walk = numbers(5, 1500)
        some = [share(next(walk), next(walk), 2 ** 700 + next(walk) % 1000) for _ in range(60)]
        worth = {one: floor_of(one, 2000) for one in some}
        for one, other in itertools.product(some, repeat=2):
            if one != other:
                self.assertNotEqual(worth[one], worth[other])
            self.assertIs(share_under(one, other), worth[one] < worth[other])


class Shown(unittest.TestCase):
    def test_told_ones(self):
        self.assertEqual(show_share((1, 0, 2)), "1 0 2")
        self.assertEqual(show_share((0, 0, 1)), "0 0 1")
        self.assertEqual(show_share((-1, 0, 2)), "-1 0 2")
        self.assertEqual(show_share((0, -13, 200)), "0 -13 200")
        self.assertEqual(show_share((-10, -30, 7)), "-10 -30 7")

    def test_long_ones(self):
        self.assertEqual(show_share((GREAT, -GREAT, 10 ** 999)), f"{GREAT} -{GREAT} {10 ** 999}")
        for figures in [63, 64, 65, 127, 128, 129]:
            number = 10 ** figures
            handed = (number, -number + 1, number + 1)
            self.assertEqual(show_share(handed), f"{handed[0]} {handed[1]} {handed[2]}")

    def test_more_figures_than_python_writes_by_itself(self):
        shown = show_share(share_times((10 ** 999, 0, 1), (10 ** 5000, 0, 1)))
        self.assertEqual(shown, "1" + "0" * 5999 + " 0 1")
        self.assertEqual(show_share((1, -(10 ** 6000) - 3, 1)), "1 -1" + "0" * 5999 + "3 1")


if __name__ == "__main__":
    unittest.main()
