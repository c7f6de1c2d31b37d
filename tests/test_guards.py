import inspect
import itertools
import random
import unittest

from spinboard import guards
from spinboard.boards import laid_on, parted, start
from spinboard.errors import NoTable, Unguarded
from spinboard.guards import answers, mends, wrongs
from spinboard.layers import laid
from spinboard.looks import looked
from spinboard.marks import product, read_mark, turned_about
from spinboard.rows import run
from tests.helper import (
    ANYTHING, FIVE, FOUR, NO_TABLES, NOT_WHOLE, SIX, SIX_TIED, OwnCase, all_marks, all_tables, is_empty_list,
    made_otherwise, products_of, some_marks, some_table, table_of,
)

NO_WRONG = (0, 0, 0)


def wrongs_by_words(cells, where):
    """The wrongs by their texts."""
    told = [NO_WRONG]
    for cell, letter in itertools.product(where, "fsb"):
        told.append(read_mark("+" + "." * cell + letter + "." * (cells - cell - 1))[0])
    return told


def lists_of_cells(cells):
    """Every list of unlike cells, in every order."""
    for many in range(cells + 1):
        for where in itertools.permutations(range(cells), many):
            yield list(where)


def is_some_mark_of(rows, mark):
    """Whether the mark, with some k added to q, is a mark of the table."""
    return mark[1:] in [other[1:] for other in products_of(rows)]


def parts(rows, one, other):
    """Whether the table can part two wrongs, or needn't."""
    return answers(rows, one) != answers(rows, other) or is_some_mark_of(rows, product(one, other))


def guards_by_words(rows, told):
    return all(parts(rows, one, other) for one, other in itertools.combinations(told, 2))


class Interface(unittest.TestCase):
    def test_names_and_arguments(self):
        asked = {"wrongs": "(cells, where=None)", "answers": "(rows, mark)", "mends": "(rows, cells, where=None)"}
        for name, arguments in asked.items():
            self.assertEqual(str(inspect.signature(getattr(guards, name))), arguments, name)


class Wrongs(OwnCase):
    def test_told_ones(self):
        self.assertEqual(wrongs(1), [(0, 0, 0), (0, 1, 0), (0, 0, 1), (1, 1, 1)])
        self.assertEqual(wrongs(2)[4:], [(0, 2, 0), (0, 0, 2), (1, 2, 2)])
        self.assertEqual(wrongs(3, [2]), [(0, 0, 0), (0, 4, 0), (0, 0, 4), (1, 4, 4)])
        self.assertEqual(wrongs(6, [5, 0])[1:], [(0, 32, 0), (0, 0, 32), (1, 32, 32), (0, 1, 0), (0, 0, 1), (1, 1, 1)])

    def test_all_cells_where_the_list_is_left_out(self):
        for cells in range(1, 7):
            asked = wrongs_by_words(cells, range(cells))
            self.assertEqual(len(asked), 1 + 3 * cells)
            for told in (wrongs(cells), wrongs(cells, None), wrongs(cells, where=None), wrongs(cells, [*range(cells)])):
                self.assertIs(type(told), list)
                self.assertEqual(told, asked)

    def test_cells_in_any_order(self):
        for cells in range(1, 7):
            for where in itertools.islice(lists_of_cells(cells), 0, None, 1 if cells < 6 else 7):
                handed = list(where)
                self.assertEqual(wrongs(cells, where), wrongs_by_words(cells, where))
                self.assertEqual(wrongs(cells, where=where), wrongs(cells, where))
                self.assertEqual(where, handed)

    def test_the_empty_list(self):
        for cells in range(1, 7):
            self.assertEqual(wrongs(cells, []), [NO_WRONG])

    def test_the_list_belongs_to_the_asker(self):
        for cells in range(1, 7):
            self.assert_own(wrongs, cells)
            self.assert_own(wrongs, cells, None)
            for where in ([], [0], list(range(cells))[::-1]):
                self.assert_own(wrongs, cells, where)


class Answers(unittest.TestCase):
    def test_told_ones(self):
        self.assertEqual(answers([], (0, 1, 0)), ())
        self.assertEqual(answers(FOUR, (0, 0, 0)), (0, 0))
        self.assertEqual(answers(FOUR, (0, 1, 0)), (0, 1))
        self.assertEqual(answers(FOUR, (0, 0, 8)), (1, 0))
        self.assertEqual(answers(FOUR, (1, 2, 2)), (1, 1))
        self.assertEqual(answers(FIVE, (0, 1, 0)), (0, 0, 0, 1))
        self.assertEqual(answers(FIVE, (0, 0, 1)), (1, 0, 1, 0))
        self.assertEqual(answers(FIVE[::-1], (0, 1, 0)), (1, 0, 0, 0))

    def test_tables_and_marks_even_or_not(self):
        for cells in range(1, 7):
            marks = all_marks(cells) if cells < 3 else some_marks(cells, 60, "answers")
            for many in range(cells + 1):
                rows = some_table(cells, many, "answers")
                for mark in marks:
                    told = answers(rows, mark)
                    self.assertIs(type(told), tuple)
                    # Two marks commute where both products are the same.
                    asked = [0 if product(row, mark) == product(mark, row) else 1 for row in rows]
                    self.assertEqual(list(told), asked)
                    self.assertEqual([type(each) for each in told], [int] * many)
                    self.assertEqual(answers(rows, mark), told)

    def test_a_mark_and_the_marks_that_it_makes_with_those_of_the_table(self):
        for cells in range(1, 5):
            rows = some_table(cells, cells - 1, "made")
            for mark in some_marks(cells, 20, "made"):
                for other in products_of(rows):
                    self.assertEqual(answers(rows, product(mark, other)), answers(rows, mark))
                self.assertEqual(answers(rows, turned_about(mark)), answers(rows, mark))

    def test_what_is_handed_in_stays(self):
        rows = list(FIVE)
        answers(rows, (0, 1, 0))
        self.assertEqual(rows, FIVE)


class MendsCase(OwnCase):
    def assert_mends(self, rows, cells, *where):
        """The document's words, over all wrongs: tell whether the table guards."""
        handed = list(rows), *[None if cells_told is None else list(cells_told) for cells_told in where]
        told_cells = range(cells) if not where or where[0] is None else where[0]
        told = wrongs_by_words(cells, told_cells)
        if guards_by_words(rows, told):
            found = mends(rows, cells, *where)
            self.assertIs(type(found), list)
            self.assertTrue(all(type(each) is tuple and len(each) == 2 for each in found))
            self.assertEqual([each[0] for each in found], sorted({answers(rows, wrong) for wrong in told}))
            for outs, mark in found:
                self.assertIs(type(outs), tuple)
                self.assertEqual(mark, [wrong for wrong in told if answers(rows, wrong) == outs][0])
            self.assertEqual(mends(rows, cells, *where), found)
        else:
            self.assert_unguarded(rows, cells, told, *where)
        self.assertEqual((rows, *where), handed)
        return guards_by_words(rows, told)

    def assert_unguarded(self, rows, cells, told, *where):
        with self.assertRaises(Unguarded) as caught:
            mends(rows, cells, *where)
        one, other = caught.exception.one, caught.exception.other
        self.assertIn(one, told)
        self.assertIn(other, told)
        self.assertNotEqual(one, other)
        self.assertEqual(answers(rows, one), answers(rows, other))
        self.assertFalse(is_some_mark_of(rows, product(one, other)))


class Mends(MendsCase):
    def test_told_ones(self):
        self.assertEqual(mends([], 1, []), [((), NO_WRONG)])
        self.assertEqual(mends([(0, 0, 1)], 1), [((0,), NO_WRONG), ((1,), (0, 1, 0))])
        self.assertEqual(mends([(2, 1, 0)], 1), [((0,), NO_WRONG), ((1,), (0, 0, 1))])
        self.assertEqual(mends([(1, 1, 1)], 1), [((0,), NO_WRONG), ((1,), (0, 1, 0))])
        asked = [((0, 0), NO_WRONG), ((0, 1), (0, 4, 0)), ((1, 0), (0, 0, 4)), ((1, 1), (1, 4, 4))]
        self.assertEqual(mends(FOUR, 4, [2]), asked)
        self.assertEqual(mends(FOUR, 4, []), [((0, 0), NO_WRONG)])
        tied = table_of("+ff +ss")
        asked = [((0, 0), NO_WRONG), ((0, 1), (0, 1, 0)), ((1, 0), (0, 0, 1)), ((1, 1), (1, 1, 1))]
        self.assertEqual(mends(tied, 2), asked)
        self.assertEqual(mends(tied, 2, [0]), asked)
        asked = [((0, 0), NO_WRONG), ((0, 1), (0, 2, 0)), ((1, 0), (0, 0, 2)), ((1, 1), (1, 2, 2))]
        self.assertEqual(mends(tied, 2, [1, 0]), asked)
        self.assertEqual(mends(tied, 2, [1]), asked)

    def test_five_cells_guarded_by_four_rows(self):
        found = mends(FIVE, 5)
        self.assertEqual([outs for outs, mark in found], list(itertools.product((0, 1), repeat=4)))
        self.assertEqual(sorted(mark for outs, mark in found), sorted(wrongs(5)))
        for outs, mark in found:
            self.assertEqual(answers(FIVE, mark), outs)
        self.assertEqual(mends(FIVE, 5, None), found)
        self.assertEqual(mends(FIVE, 5, where=[4, 1, 0, 3, 2]), found)

    def test_tables_that_guard(self):
        for rows, cells in [(FIVE, 5), (SIX, 6), (SIX[::-1], 6), ([turned_about(row) for row in SIX], 6)]:
            for where in [None, [], [0], [4], [0, 1], [4, 2, 0], list(range(cells)), list(range(cells))[::-1]]:
                self.assertTrue(self.assert_mends(rows, cells, where))
                self.assertTrue(self.assert_mends(made_otherwise(rows, 1), cells, where))
            self.assertTrue(self.assert_mends(rows, cells))

    def test_cells_that_a_table_guards_one_by_one_but_not_together(self):
        for cell in range(4):
            self.assertTrue(self.assert_mends(FOUR, 4, [cell]))
            self.assertTrue(self.assert_mends(SIX_TIED, 6, [cell, 5, 4]))
            self.assertTrue(self.assert_mends(SIX_TIED, 6, [5, cell]))
        for where in itertools.permutations(range(4), 2):
            self.assertFalse(self.assert_mends(FOUR, 4, list(where)))
            self.assertFalse(self.assert_mends(SIX_TIED, 6, [4, *where, 5]))
        self.assertFalse(self.assert_mends(FOUR, 4))
        self.assertFalse(self.assert_mends(SIX_TIED, 6))

    def test_tables_that_do_not_guard(self):
        texts = [
            "+ss. +.ss", "+ff. +.ff", "+s.", "+.s", "+bb", "+ff", "+ssss +ffff", "+sss", "+....ss", "+.fssf +f.fss",
        ]
        for text in texts:
            rows = table_of(text)
            cells = len(text.split()[0]) - 1
            self.assertFalse(self.assert_mends(rows, cells))
            self.assertFalse(self.assert_mends(rows, cells, None))
            self.assertTrue(self.assert_mends(rows, cells, []))

    def test_a_table_without_rows(self):
        for cells in range(1, 7):
            self.assertFalse(self.assert_mends([], cells))
            self.assertFalse(self.assert_mends([], cells, [cells - 1]))
            self.assertTrue(self.assert_mends([], cells, []))

    def test_full_tables_guard_all_cells(self):
        for cells in range(1, 7):
            for seed in range(6):
                rows = some_table(cells, cells, seed)
                self.assertTrue(self.assert_mends(rows, cells))
                self.assertTrue(self.assert_mends(rows, cells, list(range(cells))[::-1]))

    def test_every_table_of_one_and_two_cells_at_all_lists_of_cells(self):
        for cells in (1, 2):
            for rows in all_tables(cells):
                self.assert_mends(rows, cells)
                for where in lists_of_cells(cells):
                    self.assert_mends(rows, cells, where)

    def test_tables_of_three_to_six_cells(self):
        told = []
        for cells in range(3, 7):
            for many, seed in itertools.product(range(1, cells + 1), range(6)):
                source = random.Random(f"{cells} {many} {seed}")
                rows = some_table(cells, many, seed)
                where = source.sample(range(cells), source.randrange(1, cells + 1))
                told.append(self.assert_mends(rows, cells, where))
                told.append(self.assert_mends(rows, cells, where[:1]))
                told.append(self.assert_mends(rows, cells))
        self.assertGreater(told.count(True), 50)
        self.assertGreater(told.count(False), 50)

    def test_lists_belong_to_the_asker(self):
        self.assert_own(mends, list(FIVE), 5)
        self.assert_own(mends, list(FIVE), 5, [3, 0])
        self.assert_own(mends, [], 2, [])


class MendsMend(unittest.TestCase):
    def test_each_wrong_is_told_by_looks_and_mended(self):
        tables = [(FIVE, 5), (SIX, 6), (some_table(3, 3, "mend"), 3), (table_of("+ff +ss"), 2), ([(1, 1, 1)], 1)]
        for rows, cells in tables:
            row = laid(rows, cells)
            told = dict(mends(rows, cells))
            for word in range(0, 2 ** cells, 2 ** len(rows)):
                # A mix of the cells that are left makes more than one beginning of the board.
                ahead = [("mix", cell) for cell in range(len(rows), cells)] + [("turn", cells - 1, 1)]
                board = run(run(start(cells, word), ahead), row)
                for wrong in wrongs(cells):
                    hit = laid_on(board, wrong)
                    outs = tuple([0 if looked(hit, mark)[0] == (1, 0, 1) else 1 for mark in rows])
                    self.assertEqual(outs, answers(rows, wrong))
                    self.assertIsNone(parted(laid_on(hit, told[outs]), board))


class MendsRefuses(unittest.TestCase):
    def assert_no_table(self, rows, cells):
        for where in [(), (None,), ([],), ([0],), (list(range(cells))[::-1],)]:
            with self.assertRaises(NoTable):
                mends(rows, cells, *where)

    def test_no_table_goes_ahead_of_unguarded(self):
        for rows in NO_TABLES:
            self.assert_no_table(rows, 3)
        self.assert_no_table([(0, 0, 1), (0, 0, 1)], 2)
        self.assert_no_table([(0, 1, 0), (0, 0, 1)], 1)
        self.assert_no_table(FIVE, 4)
        self.assert_no_table(FIVE + [FIVE[0]], 5)
        self.assert_no_table(FIVE + [(0, 1, 0)], 5)

    def test_of_anything(self):
        for thing in ANYTHING:
            if not is_empty_list(thing):
                self.assert_no_table(thing, 2)
            self.assert_no_table([thing], 3)
            self.assert_no_table([(0, 0, 1), thing], 6)
        for thing in NOT_WHOLE:
            self.assert_no_table([(thing, 0, 1)], 1)
            self.assert_no_table([(0, 0, thing)], 1)

    def test_wrongs_are_parted_for_each_row_that_is_taken_away(self):
        for place in range(4):
            rows = FIVE[:place] + FIVE[place + 1:]
            with self.assertRaises(Unguarded) as caught:
                mends(rows, 5)
            one, other = caught.exception.one, caught.exception.other
            self.assertEqual(answers(rows, one), answers(rows, other))
            self.assertNotEqual(answers(FIVE, one), answers(FIVE, other))

    def test_asked_again_the_same_is_refused_again(self):
        told = []
        for _ in range(3):
            with self.assertRaises(Unguarded) as caught:
                mends(FOUR, 4)
            told.append((caught.exception.one, caught.exception.other))
        self.assertEqual(told, told[:1] * 3)


if __name__ == "__main__":
    unittest.main()
