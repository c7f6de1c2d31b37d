import copy
import inspect
import unittest

from spinboard import errors

PLAIN = ["NoShare", "NoAmount", "NoMark", "NoBoard", "NoMove", "NoCell", "NeverSo", "NoTable"]
PLACED = ["NoText", "NotBorne"]


class Errors(unittest.TestCase):
    def test_the_base_stands_under_value_error(self):
        self.assertEqual(errors.BoardError.__bases__, (ValueError,))

    def test_each_stands_straight_under_the_base(self):
        for name in PLAIN + PLACED + ["Unguarded"]:
            self.assertEqual(getattr(errors, name).__bases__, (errors.BoardError,), name)

    def test_no_two_names_are_one_class(self):
        classes = [getattr(errors, name) for name in PLAIN + PLACED + ["Unguarded"]]
        self.assertEqual(len(set(classes)), 11)

    def test_plain_ones_are_made_with_and_without_words(self):
        for name in PLAIN + ["BoardError"]:
            made = getattr(errors, name)
            self.assertIsInstance(made(), errors.BoardError)
            self.assertIn("some words", str(made("some words")))

    def test_placed_ones_have_their_place(self):
        for name in PLACED:
            made = getattr(errors, name)
            self.assertEqual(list(inspect.signature(made.__init__).parameters), ["self", "place"])
            self.assertEqual(made(0).place, 0)
            self.assertEqual(made(17).place, 17)
            self.assertEqual(made(place=5).place, 5)
            with self.assertRaises(TypeError):
                made()

    def test_unguarded_has_one_and_other(self):
        self.assertEqual(list(inspect.signature(errors.Unguarded.__init__).parameters), ["self", "one", "other"])
        told = errors.Unguarded((0, 1, 0), (0, 0, 2))
        self.assertEqual((told.one, told.other), ((0, 1, 0), (0, 0, 2)))
        told = errors.Unguarded(other=(0, 0, 2), one=(0, 1, 0))
        self.assertEqual((told.one, told.other), ((0, 1, 0), (0, 0, 2)))

    def test_fields_are_the_object_s_own(self):
        first = errors.NoText(1)
        second = errors.NoText(2)
        self.assertEqual((first.place, second.place, copy.copy(first).place), (1, 2, 1))

    def test_they_are_raised_and_taken_by_their_base(self):
        for made in [errors.NoText(3), errors.Unguarded((0, 0, 0), (0, 1, 0)), errors.NoCell()]:
            with self.assertRaises(errors.BoardError) as taken:
                raise made
            self.assertIs(taken.exception, made)


if __name__ == "__main__":
    unittest.main()
