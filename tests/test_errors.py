"""threadslide/errors.py: what all refusals are."""

import unittest

from threadslide import errors
from threadslide.errors import BadSize, BadThing, NoBox, NoField, NoRoom, SlideError

FIVE = (BadSize, BadThing, NoBox, NoField, NoRoom)
NAMES = ("BadSize", "BadThing", "NoBox", "NoField", "NoRoom")


class ErrorsTest(unittest.TestCase):
    def test_slide_error_is_under_value_error(self):
        self.assertTrue(issubclass(SlideError, ValueError))
        self.assertIsNot(SlideError, ValueError)

    def test_the_five_are_slide_errors_and_value_errors(self):
        for kind in FIVE:
            with self.subTest(kind.__name__):
                self.assertTrue(issubclass(kind, SlideError))
                self.assertTrue(issubclass(kind, ValueError))

    def test_the_five_are_straight_under_slide_error(self):
        for kind in FIVE:
            with self.subTest(kind.__name__):
                self.assertEqual(kind.__bases__, (SlideError,))

    def test_none_of_the_five_is_under_another(self):
        for kind in FIVE:
            for other in FIVE:
                with self.subTest(f"{kind.__name__} under {other.__name__}"):
                    self.assertEqual(issubclass(kind, other), kind is other)

    def test_slide_error_is_under_none_of_the_five(self):
        for kind in FIVE:
            self.assertFalse(issubclass(SlideError, kind))

    def test_they_are_five_classes_of_these_names_in_this_file(self):
        self.assertEqual(tuple(kind.__name__ for kind in FIVE), NAMES)
        self.assertEqual(len(set(FIVE)), 5)
        for kind in (SlideError, *FIVE):
            with self.subTest(kind.__name__):
                self.assertEqual(kind.__module__, "threadslide.errors")
                self.assertIs(getattr(errors, kind.__name__), kind)

    def test_each_is_raised_and_caught_by_every_name_above_it(self):
        for kind in FIVE:
            for above in (kind, SlideError, ValueError):
                with self.subTest(f"{kind.__name__} as {above.__name__}"):
                    with self.assertRaises(above):
                        raise kind("no")

    def test_none_is_caught_as_another(self):
        for kind in FIVE:
            others = tuple(other for other in FIVE if other is not kind)
            with self.subTest(kind.__name__):
                with self.assertRaises(kind):
                    try:
                        raise kind("no")
                    except others:
                        self.fail("caught as another")


if __name__ == "__main__":
    unittest.main()
