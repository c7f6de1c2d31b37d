import copy
import inspect
import itertools
import random
import unittest

from spinboard import tables
from spinboard.errors import NoTable
from spinboard.marks import commute, is_even, is_mark, product, turned_about
from spinboard.tables import is_table, made_of, parting, reduced
from tests.helper import (
    ANYTHING, NO_TABLES, NOT_WHOLE, RING, Odd, OwnCase, all_marks, all_tables, even_marks, is_empty_list,
    is_reduced_by_words, is_table_by_words, made_otherwise, products_of, some_even_marks, some_marks, some_table,
)


def tables_of(cells, seeds=3):
    for many, seed in itertools.product(range(cells + 1), range(seeds)):
        yield some_table(cells, many, seed)


class Interface(unittest.TestCase):
    def test_names_and_arguments(self):
        asked = {
            "is_table": "(rows, cells)", "reduced": "(rows, cells)", "made_of": "(rows, mark, cells)",
            "parting": "(rows, others)",
        }
        for name, arguments in asked.items():
            self.assertEqual(str(inspect.signature(getattr(tables, name))), arguments, name)


class IsTable(unittest.TestCase):
    def test_told_ones(self):
        for cells in range(1, 7):
            self.assertIs(is_table([], cells), True)
            self.assertIs(is_table([(0, 0, 1)], cells), True)
            self.assertIs(is_table([(2, 1, 0)], cells), True)
            self.assertIs(is_table([(0, 0, 2 ** cell) for cell in range(cells)], cells), True)
            self.assertIs(is_table([(1, 2 ** cell, 2 ** cell) for cell in range(cells)], cells), True)
        for rows in [[(0, 3, 0), (0, 0, 3)], [(2, 3, 3), (0, 0, 3)], [(0, 1, 2), (0, 2, 1)]]:
            self.assertIs(is_table(rows, 2), True)
        guarding = [(0, 9, 6), (0, 18, 12), (0, 5, 24), (0, 10, 17)]
        self.assertIs(is_table(guarding, 5), True)
        self.assertIs(is_table(guarding, 4), False)

    def test_every_list_of_one_cell(self):
        for many in range(4):
            for rows in itertools.product(all_marks(1), repeat=many):
                self.assertIs(is_table(list(rows), 1), is_table_by_words(rows, 1), rows)

    def test_every_list_of_two_marks_of_two_cells(self):
        for rows in itertools.product(all_marks(2), repeat=2):
            self.assertIs(is_table(list(rows), 2), is_table_by_words(rows, 2), rows)

    def test_some_lists_of_three_marks_of_two_cells(self):
        for rows in itertools.product(even_marks(2)[::3], repeat=3):
            self.assertIs(is_table(list(rows), 2), is_table_by_words(rows, 2), rows)

    def test_tables_of_none_to_n_marks(self):
        for cells in range(1, 7):
            for rows in tables_of(cells):
                self.assertIs(is_table(rows, cells), True, rows)
                self.assertIs(is_table(made_otherwise(rows, 1), cells), True, rows)
                self.assertIs(is_table(rows, cells + 1), True, rows)

    def test_tables_with_one_thing_wrong(self):
        for cells in range(1, 7):
            for rows in tables_of(cells, 2):
                for place in range(len(rows) + 1):
                    for more in products_of(rows)[:9]:
                        for mark in [more, turned_about(more)]:
                            self.assertIs(is_table(rows[:place] + [mark] + rows[place:], cells), False)
                for place, (q, f, s) in enumerate(rows):
                    for wrong in [((q + 1) % 4, f, s), (q, f, s + 2 ** cells), (q, f + 2 ** cells, s), [q, f, s]]:
                        self.assertIs(is_table(rows[:place] + [wrong] + rows[place + 1:], cells), False)

    def test_a_full_table_with_any_more(self):
        for cells in range(1, 7):
            rows = some_table(cells, cells, 4)
            for mark in some_marks(cells, 40, 1):
                self.assertIs(is_table(rows + [mark], cells), False)
                self.assertIs(is_table([mark] + rows, cells), False)

    def test_twelve_marks(self):
        for cells in range(1, 7):
            for seed in range(10):
                self.assertIs(is_table(some_even_marks(cells, 12, seed), cells), False)
            self.assertIs(is_table([(0, 0, 1)] * 12, cells), False)

    def test_lists_of_some_marks_by_the_words(self):
        told = []
        for cells in range(2, 7):
            for seed in range(150):
                rows = some_even_marks(cells, 2 + seed % 2, seed)
                told.append(is_table(rows, cells))
                self.assertIs(told[-1], is_table_by_words(rows, cells), rows)
        self.assertGreater(told.count(True), 60)

    def test_anything_else(self):
        for thing in NO_TABLES:
            self.assertIs(is_table(thing, 3), False, thing)
        for cells in range(1, 7):
            for thing in ANYTHING:
                if not is_empty_list(thing):
                    self.assertIs(is_table(thing, cells), False)
                self.assertIs(is_table([thing], cells), False)
                self.assertIs(is_table([(0, 0, 1), thing], cells), False)
                self.assertIs(is_table((thing,), cells), False)
            for place, thing in itertools.product(range(3), NOT_WHOLE):
                mark = tuple(thing if place == other else 1 for other in range(3))
                self.assertIs(is_table([mark], cells), False)
            for thing in [RING, [RING], [Odd()], Odd(), [[(0, 0, 1)]], [((0, 0, 1),)]]:
                self.assertIs(is_table(thing, cells), False)

    def test_cells_that_are_no_number(self):
        for cells in NOT_WHOLE + [-1]:
            self.assertIs(is_table([], cells), False)
            self.assertIs(is_table([(0, 0, 1)], cells), False)

    def test_what_is_handed_in_stays(self):
        for rows in [[], [(0, 0, 1)], [(0, 0, 3), (0, 3, 0)], [(0, 0, 1), (0, 0, 1)], [(0, 0, 1), [1]]]:
            handed = copy.deepcopy(rows)
            self.assertIs(is_table(handed, 2), is_table(handed, 2))
            self.assertEqual(handed, rows)


class Reduced(OwnCase):
    def assert_reduced(self, rows, cells):
        told = reduced(rows, cells)
        self.assertIs(type(told), list)
        self.assertIs(is_table(told, cells), True, rows)
        self.assertTrue(is_reduced_by_words(told), (rows, told))
        self.assertEqual(len(told), len(rows))
        self.assertEqual(sorted(products_of(told)), sorted(products_of(rows)), rows)

    def test_told_ones(self):
        self.assertEqual(reduced([], 3), [])
        self.assertEqual(reduced([(2, 0, 1)], 1), [(2, 0, 1)])
        self.assertEqual(reduced([(0, 0, 2), (0, 0, 1)], 2), [(0, 0, 1), (0, 0, 2)])
        self.assertEqual(reduced([(0, 0, 3), (0, 0, 2)], 2), [(0, 0, 1), (0, 0, 2)])
        self.assertEqual(reduced([(2, 0, 3), (0, 0, 1)], 2), [(0, 0, 1), (2, 0, 2)])
        self.assertEqual(reduced([(0, 0, 3), (0, 3, 0)], 2), [(0, 3, 0), (0, 0, 3)])
        self.assertEqual(reduced([(2, 3, 3), (0, 3, 0)], 2), [(0, 3, 0), (2, 0, 3)])
        self.assertEqual(reduced([(2, 3, 3), (0, 0, 3)], 2), [(2, 3, 0), (0, 0, 3)])
        self.assertEqual(reduced([(0, 2, 0), (0, 3, 0)], 2), [(0, 1, 0), (0, 2, 0)])
        self.assertEqual(reduced([(0, 0, 1), (0, 2, 0)], 2), [(0, 2, 0), (0, 0, 1)])
        # Flips lead ahead of all signs: the one with the flip at cell 5 ahead of the one with the sign at cell 0.
        self.assertEqual(reduced([(0, 0, 1), (0, 32, 0)], 6), [(0, 32, 0), (0, 0, 1)])
        self.assertEqual(reduced([(0, 0, 1), (0, 32, 1)], 6), [(0, 32, 0), (0, 0, 1)])
        self.assertEqual(reduced([(0, 2, 1), (0, 1, 2)], 2), [(0, 1, 2), (0, 2, 1)])
        self.assertEqual(reduced([(0, 3, 3), (0, 1, 2)], 2), [(0, 1, 2), (2, 2, 1)])

    def test_every_table_of_one_and_two_cells(self):
        for cells in [1, 2]:
            for rows in all_tables(cells):
                self.assert_reduced(rows, cells)

    def test_of_tables_with_the_same_marks_one_is_reduced(self):
        for cells in [1, 2]:
            by_marks = {}
            for rows in all_tables(cells):
                by_marks.setdefault(tuple(sorted(products_of(rows))), []).append(rows)
            for same in by_marks.values():
                asked = [rows for rows in same if is_reduced_by_words(rows)]
                self.assertEqual(len(asked), 1)
                for rows in same:
                    self.assertEqual(reduced(rows, cells), asked[0])

    def test_tables_of_none_to_n_marks(self):
        for cells in range(1, 7):
            for rows in tables_of(cells, 6):
                self.assert_reduced(rows, cells)

    def test_one_for_tables_with_the_same_marks(self):
        for cells in range(1, 7):
            for rows in tables_of(cells):
                told = reduced(rows, cells)
                self.assertEqual(reduced(told, cells), told)
                for seed in range(4):
                    self.assertEqual(reduced(made_otherwise(rows, seed), cells), told)

    def test_another_one_for_tables_with_other_marks(self):
        for cells in range(1, 7):
            for rows in tables_of(cells):
                for place, row in enumerate(rows):
                    others = rows[:place] + [turned_about(row)] + rows[place + 1:]
                    self.assert_reduced(others, cells)
                    self.assertNotEqual(reduced(others, cells), reduced(rows, cells))

    def test_the_list_told_is_new(self):
        for cells in range(1, 7):
            for rows in tables_of(cells, 1):
                self.assert_own(reduced, rows, cells)
                self.assert_own(reduced, reduced(rows, cells), cells)

    def assert_refused(self, thing, cells):
        with self.assertRaises(NoTable):
            reduced(thing, cells)

    def test_anything_that_is_no_table(self):
        for thing in NO_TABLES:
            self.assert_refused(thing, 3)
        for cells in range(1, 7):
            for thing in ANYTHING:
                if not is_empty_list(thing):
                    self.assert_refused(thing, cells)
                self.assert_refused([thing], cells)
                self.assert_refused([(0, 0, 1), thing], cells)
            self.assert_refused([(0, 0, 2 ** cells)], cells)
            self.assert_refused([(0, 2 ** cells, 0)], cells)
            self.assert_refused(some_table(cells, cells, 1) + [(0, 0, 0)], cells)

    def test_a_refused_list_stays(self):
        rows = [(0, 0, 1), (0, 1, 0)]
        self.assert_refused(rows, 2)
        self.assertEqual(rows, [(0, 0, 1), (0, 1, 0)])


class MadeOf(unittest.TestCase):
    def test_told_ones(self):
        rows = [(0, 3, 0), (0, 0, 3)]
        self.assertEqual(made_of(rows, (0, 0, 0), 2), ("made", 0, []))
        self.assertEqual(made_of(rows, (3, 0, 0), 2), ("made", 3, []))
        self.assertEqual(made_of(rows, (0, 3, 0), 2), ("made", 0, [0]))
        self.assertEqual(made_of(rows, (1, 0, 3), 2), ("made", 1, [1]))
        self.assertEqual(made_of(rows, (0, 3, 3), 2), ("made", 0, [0, 1]))
        self.assertEqual(made_of(rows, (2, 3, 3), 2), ("made", 2, [0, 1]))
        self.assertEqual(made_of([(1, 1, 1)], (0, 1, 1), 1), ("made", 3, [0]))
        self.assertEqual(made_of([(0, 1, 2), (0, 2, 1)], (0, 3, 3), 2), ("made", 2, [0, 1]))
        self.assertEqual(made_of([], (2, 0, 0), 4), ("made", 2, []))
        # Of a full table of one cell just two marks, one of them turned about, fit: those of the table.
        for mark in [(0, 1, 0), (1, 1, 0), (0, 1, 1), (3, 1, 1)]:
            told = made_of([(2, 0, 1)], mark, 1)
            self.assertEqual((told[0], told[1][1:]), ("apart", (0, 1)))

    def assert_told(self, rows, mark, cells):
        handed = copy.deepcopy(rows)
        told = made_of(rows, mark, cells)
        self.assertEqual(rows, handed)
        self.assertEqual(made_of(rows, mark, cells), told)
        self.assertIs(type(told), tuple)
        there = mark[1:] in [made[1:] for made in products_of(rows)]
        self.assertEqual(told[0], "made" if there else "apart", (rows, mark))
        if there:
            self.assert_made(told, rows, mark)
        else:
            self.assert_apart(told, rows, mark, cells)

    def assert_made(self, told, rows, mark):
        word, k, numbers = told
        self.assertIs(type(k), int)
        self.assertIn(k, range(4))
        self.assertIs(type(numbers), list)
        self.assertEqual(numbers, sorted(set(numbers)))
        made = (0, 0, 0)
        for number in numbers:
            self.assertIs(type(number), int)
            self.assertIn(number, range(len(rows)))
            made = product(made, rows[number])
        self.assertEqual(((made[0] + k) % 4, made[1], made[2]), mark, rows)

    def assert_apart(self, told, rows, mark, cells):
        word, other = told
        self.assertIs(is_mark(other, cells), True, other)
        self.assertIs(is_even(other), True, other)
        for row in rows:
            self.assertIs(commute(other, row), True, (rows, mark))
        self.assertIs(commute(other, mark), False, (rows, mark))

    def test_every_mark_and_tables_of_one_and_two_cells(self):
        for cells in [1, 2]:
            for rows in list(all_tables(cells))[::1 if cells == 1 else 7]:
                for mark in all_marks(cells):
                    self.assert_told(rows, mark, cells)

    def test_the_marks_of_a_table_with_every_k(self):
        for cells in range(1, 7):
            for rows in tables_of(cells):
                for q, f, s in products_of(rows)[::1 if cells < 4 else 5]:
                    for k in range(4):
                        told = made_of(rows, ((q + k) % 4, f, s), cells)
                        self.assertEqual(told[:2], ("made", k))
                        self.assert_told(rows, ((q + k) % 4, f, s), cells)

    def test_which_rows_there_is_just_one_choice_of(self):
        for cells in range(1, 7):
            rows = some_table(cells, cells, 5)
            for many in range(cells + 1):
                for numbers in itertools.combinations(range(cells), many):
                    made = (0, 0, 0)
                    for number in numbers:
                        made = product(made, rows[number])
                    self.assertEqual(made_of(rows, made, cells), ("made", 0, list(numbers)))

    def test_some_marks_even_or_not(self):
        for cells in range(1, 7):
            for rows in tables_of(cells):
                for mark in some_marks(cells, 20, len(rows)):
                    self.assert_told(rows, mark, cells)

    def test_flips_and_signs_of_each_cell(self):
        for cells in range(1, 7):
            for rows in tables_of(cells, 2):
                for word in [2 ** cell for cell in range(cells)]:
                    for mark in [(0, word, 0), (0, 0, word), (1, word, word), (0, word, word)]:
                        self.assert_told(rows, mark, cells)

    def test_a_full_table_that_has_b_at_three_cells(self):
        # A mark that is told apart may be +bbb.. here; being even, it has q 1 or 3.
        rows = [(1, 9, 28), (1, 26, 20), (1, 20, 4), (0, 0, 29), (0, 0, 22)]
        self.assertIs(is_table(rows, 5), True)
        self.assertEqual(made_of(rows, (3, 7, 7), 5)[0], "made")
        for mark in [(q, 0, 2 ** cell) for q in range(4) for cell in range(5)]:
            self.assert_told(rows, mark, 5)

    def test_the_table_without_rows(self):
        for cells in range(1, 7):
            for q in range(4):
                self.assertEqual(made_of([], (q, 0, 0), cells), ("made", q, []))
            for mark in all_marks(cells) if cells < 3 else some_marks(cells, 60, 2):
                self.assert_told([], mark, cells)

    def test_a_full_table_is_apart_by_its_own_marks_alone(self):
        for cells in range(1, 7):
            rows = some_table(cells, cells, 6)
            made = [mark[1:] for mark in products_of(rows)]
            for mark in some_marks(cells, 40, 3):
                if mark[1:] not in made:
                    self.assertIn(made_of(rows, mark, cells)[1][1:], made)

    def test_the_list_told_is_new(self):
        rows = [(0, 0, 1), (0, 0, 2), (0, 0, 4)]
        for mark in [(0, 0, 0), (0, 0, 1), (1, 0, 7)]:
            first = made_of(rows, mark, 3)
            kept = copy.deepcopy(first)
            first[2].append("more")
            self.assertEqual(made_of(rows, mark, 3), kept)
            self.assertEqual(rows, [(0, 0, 1), (0, 0, 2), (0, 0, 4)])


class Parting(unittest.TestCase):
    def assert_parted(self, rows, others):
        handed = copy.deepcopy((rows, others))
        told = parting(rows, others)
        self.assertEqual((rows, others), handed)
        self.assertEqual(parting(rows, others), told)
        if sorted(products_of(rows)) == sorted(products_of(others)):
            self.assertIsNone(told)
        else:
            self.assertIn(told, products_of(rows))
            self.assertNotIn(told, products_of(others))

    def test_told_ones(self):
        self.assertIsNone(parting([(0, 0, 1)], [(0, 0, 1)]))
        self.assertEqual(parting([(0, 0, 1)], [(2, 0, 1)]), (0, 0, 1))
        self.assertEqual(parting([(2, 0, 1)], [(0, 0, 1)]), (2, 0, 1))
        self.assertEqual(parting([(0, 1, 0)], [(1, 1, 1)]), (0, 1, 0))
        self.assertIsNone(parting([(0, 3, 0), (0, 0, 3)], [(0, 3, 3), (0, 3, 0)]))
        self.assertIn(parting([(0, 3, 0), (0, 0, 3)], [(0, 3, 3), (2, 3, 0)]), [(0, 3, 0), (0, 0, 3)])
        self.assertIn(parting([(0, 3, 0), (0, 0, 3)], [(2, 3, 3), (0, 3, 0)]), [(0, 3, 3), (0, 0, 3)])

    def test_every_two_full_tables_of_one_cell_and_many_of_two(self):
        for cells in [1, 2]:
            full = [rows for rows in all_tables(cells) if len(rows) == cells][::1 if cells == 1 else 5]
            for rows, others in itertools.product(full, repeat=2):
                self.assert_parted(rows, others)

    def test_none_where_they_have_the_same_marks(self):
        for cells in range(1, 7):
            for seed in range(6):
                rows = some_table(cells, cells, seed)
                for others in [list(rows), rows[::-1], made_otherwise(rows, seed), reduced(rows, cells)]:
                    self.assertIsNone(parting(rows, others))
                    self.assertIsNone(parting(others, rows))

    def test_tables_that_differ(self):
        for cells in range(1, 7):
            for seed in range(12):
                rows, others = some_table(cells, cells, seed), some_table(cells, cells, seed + 12)
                self.assert_parted(rows, others)
                self.assert_parted(others, rows)

    def test_tables_that_differ_by_a_sign_alone(self):
        for cells in range(1, 7):
            for seed in range(3):
                rows = some_table(cells, cells, seed)
                for place, row in enumerate(rows):
                    others = rows[:place] + [turned_about(row)] + rows[place + 1:]
                    for other in [others, made_otherwise(others, seed)]:
                        self.assertIsNotNone(parting(rows, other))
                        self.assert_parted(rows, other)
                        self.assert_parted(other, rows)

    def test_tables_that_differ_in_one_row_alone(self):
        source = random.Random(1)
        for cells in range(2, 7):
            for seed in range(4):
                rows = some_table(cells, cells, seed)
                place = source.randrange(cells)
                fewer = rows[:place] + rows[place + 1:]
                made = products_of(rows)
                others = [
                    mark for mark in some_even_marks(cells, 4000, seed)
                    if all(commute(mark, row) for row in fewer) and mark not in made and turned_about(mark) not in made
                ]
                self.assertIs(is_table(fewer + others[:1], cells), True)
                self.assert_parted(rows, fewer + others[:1])
                self.assert_parted(fewer + others[:1], rows)


if __name__ == "__main__":
    unittest.main()
