import copy
import inspect
import itertools
import random
import unittest

from spinboard import bits
from spinboard.bits import solved

GREATEST = 10 ** 60 - 1


def odd(number):
    return bin(number).count("1") % 2


def solves(x, equations):
    return all(odd(mask & x) == bit for mask, bit in equations)


def summed(numbers):
    total = 0
    for number in numbers:
        total ^= number
    return total


class SolvedCase(unittest.TestCase):
    def assert_told(self, equations):
        """What is told is right, whichever it is; whether there is a solution is told back."""
        handed = copy.deepcopy(equations)
        told = solved(equations)
        self.assertEqual(equations, handed)
        self.assertIs(type(told), tuple)
        self.assertEqual(len(told), 2)
        self.assertEqual(solved(equations), told)
        x, numbers = told
        if numbers is None:
            self.assertIs(type(x), int)
            self.assertGreaterEqual(x, 0)
            self.assertTrue(solves(x, equations), equations)
            return True
        self.assertIsNone(x)
        self.assert_none(numbers, equations)
        return False

    def assert_none(self, numbers, equations):
        self.assertIs(type(numbers), list)
        self.assertEqual([type(number) for number in numbers], [int] * len(numbers))
        self.assertEqual(numbers, sorted(set(numbers)))
        self.assertTrue(set(numbers) <= set(range(len(equations))))
        self.assertEqual(summed(equations[number][0] for number in numbers), 0)
        self.assertEqual(sum(equations[number][1] for number in numbers) % 2, 1)

    def assert_solvable(self, equations):
        self.assertTrue(self.assert_told(equations), equations)

    def assert_unsolvable(self, equations):
        self.assertFalse(self.assert_told(equations), equations)


class Interface(unittest.TestCase):
    def test_names_and_arguments(self):
        self.assertEqual(str(inspect.signature(bits.solved)), "(equations)")


class Told(SolvedCase):
    def test_the_list_without_equations(self):
        self.assert_solvable([])

    def test_masks_of_nought(self):
        self.assert_solvable([(0, 0)])
        self.assert_solvable([(0, 0), (0, 0)])
        self.assertEqual(solved([(0, 1)]), (None, [0]))
        self.assertEqual(solved([(0, 0), (0, 1)])[0], None)
        self.assertIn(1, solved([(0, 0), (0, 1)])[1])
        self.assertEqual(solved([(5, 1), (3, 0), (0, 1)]), (None, [2]))
        self.assert_unsolvable([(5, 1), (0, 1), (3, 0), (0, 1)])
        self.assert_solvable([(5, 1), (0, 0), (3, 0)])

    def test_where_just_one_x_or_one_list_fits(self):
        self.assertEqual(solved([(1, 1), (2, 0), (4, 1)])[0] % 8, 5)
        self.assertEqual(solved([(3, 1), (2, 1)])[0] % 4, 2)
        self.assertEqual(solved([(6, 1), (3, 0), (7, 0)])[0] % 8, 3)
        self.assertEqual(solved([(5, 0), (5, 1)]), (None, [0, 1]))
        self.assertEqual(solved([(5, 1), (5, 0)]), (None, [0, 1]))
        self.assertEqual(solved([(1, 0), (2, 0), (4, 0), (3, 1)]), (None, [0, 1, 3]))
        self.assertEqual(solved([(6, 1), (1, 1), (5, 1), (3, 1)]), (None, [0, 2, 3]))
        self.assertEqual(solved([(6, 1), (1, 1), (5, 0), (7, 1)]), (None, [0, 1, 3]))
        self.assertEqual(solved([(6, 1), (1, 1), (5, 1), (3, 0)])[0] % 8, 3)
        self.assertEqual(solved([(6, 1), (1, 1), (5, 0), (3, 1)])[0] % 8, 5)

    def test_the_same_equation_several_times(self):
        self.assert_solvable([(6, 1)] * 80)
        self.assert_solvable([(6, 0)] * 80)
        self.assert_unsolvable([(6, 1)] * 79 + [(6, 0)])
        self.assert_unsolvable([(6, 1)] + [(6, 0)] * 79)

    def test_each_binary_place_by_itself(self):
        for height in list(range(70)) + [127, 128, 198]:
            self.assert_solvable([(2 ** height, 1)])
            self.assertEqual(solved([(2 ** height, 1)])[0] >> height & 1, 1)
            self.assertEqual(solved([(2 ** height, 0)])[0] >> height & 1, 0)
            self.assertEqual(solved([(2 ** height, 0), (2 ** height, 1)]), (None, [0, 1]))


class AllSmallLists(SolvedCase):
    def assert_as_tried(self, equations, places):
        there = any(solves(x, equations) for x in range(2 ** places))
        self.assertIs(self.assert_told(equations), there, equations)

    def test_up_to_three_equations_of_two_places(self):
        every = list(itertools.product(range(4), [0, 1]))
        for many in range(4):
            for equations in itertools.product(every, repeat=many):
                self.assert_as_tried(list(equations), 2)

    def test_up_to_two_equations_of_four_places(self):
        every = list(itertools.product(range(16), [0, 1]))
        for equations in itertools.product(every, repeat=2):
            self.assert_as_tried(list(equations), 4)

    def test_up_to_twelve_equations_of_up_to_six_places(self):
        source = random.Random(1)
        told = []
        for turn in range(1500):
            places = source.randrange(1, 7)
            many = source.randrange(13)
            equations = [(source.randrange(2 ** places), source.randrange(2)) for _ in range(many)]
            self.assert_as_tried(equations, places)
            told.append(solved(equations)[0] is None)
        self.assertGreater(told.count(True), 300)
        self.assertGreater(told.count(False), 300)


class GreatLists(SolvedCase):
    def great_masks(self, source, many):
        return [GREATEST - source.randrange(10 ** source.choice([1, 3, 20, 59])) for _ in range(many)]

    def test_eighty_equations_that_one_x_solves(self):
        for seed in range(8):
            source = random.Random(seed)
            masks = self.great_masks(source, 80)
            x = source.randrange(10 ** 60)
            self.assert_solvable([(mask, odd(mask & x)) for mask in masks])

    def test_eighty_equations_with_sums_of_others_among_them(self):
        for seed in range(8):
            source = random.Random(seed)
            masks = self.great_masks(source, 40)
            x = source.randrange(10 ** 60)
            sums = [summed(source.sample(masks, source.randrange(2, 12))) for _ in range(40)]
            every = [(mask, odd(mask & x)) for mask in masks + sums]
            source.shuffle(every)
            self.assert_solvable(every)
            # Each mask that is a sum of others, turned to the wrong bit, leaves no solution.
            place = [mask for mask, bit in every].index(sums[0])
            self.assert_unsolvable(every[:place] + [(sums[0], 1 - every[place][1])] + every[place + 1:])

    def test_eighty_equations_of_which_all_but_one_are_needed(self):
        masks = [3 << place for place in range(78)] + [2 ** 78 + 1]
        self.assert_solvable([(mask, 0) for mask in masks] + [(GREATEST, 1)])
        for wrong in [0, 1, 40, 77, 78]:
            equations = [(mask, int(place == wrong)) for place, mask in enumerate(masks)] + [(GREATEST, 1)]
            self.assertEqual(solved(equations), (None, list(range(79))))
            self.assertEqual(solved(equations[::-1]), (None, list(range(1, 80))))

    def test_the_greatest_mask(self):
        self.assert_solvable([(GREATEST, 1)])
        self.assert_solvable([(GREATEST, 0), (GREATEST - 1, 1)])
        self.assert_unsolvable([(GREATEST, 0), (GREATEST - 1, 1), (1, 0)])
        self.assert_unsolvable([(GREATEST, 0)] * 40 + [(GREATEST, 1)] * 40)

    def test_eighty_equations_of_few_places(self):
        source = random.Random(9)
        for turn in range(40):
            x = source.randrange(2 ** 12)
            masks = [source.randrange(2 ** 12) for _ in range(80)]
            equations = [(mask, odd(mask & x)) for mask in masks]
            self.assert_solvable(equations)
            self.assert_unsolvable(equations[:-1] + [(masks[-1], 1 - equations[-1][1])])


class Own(SolvedCase):
    def test_the_list_told_is_new(self):
        equations = [(5, 0), (3, 1), (6, 0)]
        first = solved(equations)
        self.assertEqual(first, (None, [0, 1, 2]))
        first[1].append("more")
        first[1][0] = "changed"
        self.assertEqual(equations, [(5, 0), (3, 1), (6, 0)])
        self.assertEqual(solved(equations), (None, [0, 1, 2]))


if __name__ == "__main__":
    unittest.main()
