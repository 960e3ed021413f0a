import inspect
import unittest

from guardround import errors

OF_A_TEXT = [
    "BadPlaces", "BadTie", "NoPlace", "TooLarge", "BadGuards", "NoCall", "NoAnswer", "NoGuide", "NoCaller",
    "NoStep", "NotTwo", "NotWood", "BadColony",
]
REFUSALS = OF_A_TEXT + ["BadText"]


class TheRefusals(unittest.TestCase):
    def test_the_first_class_stands_straight_under_value_error(self):
        self.assertEqual(errors.GuardError.__bases__, (ValueError,))

    def test_each_stands_straight_under_guard_error(self):
        for name in REFUSALS:
            with self.subTest(name):
                self.assertEqual(getattr(errors, name).__bases__, (errors.GuardError,))

    def test_each_is_a_class_of_its_own_and_under_no_other(self):
        for name in REFUSALS:
            for other in REFUSALS:
                with self.subTest(f"{name}, {other}"):
                    under = issubclass(getattr(errors, name), getattr(errors, other))
                    self.assertEqual(under, name == other)

    def test_the_fourteen_and_guard_error_are_all(self):
        classes = [name for name, value in inspect.getmembers(errors, inspect.isclass)]
        self.assertEqual(len(REFUSALS), 14)
        self.assertEqual(classes, sorted(REFUSALS + ["GuardError"]))

    def test_thirteen_are_made_of_a_text(self):
        for name in OF_A_TEXT:
            with self.subTest(name):
                with self.assertRaises(errors.GuardError) as caught:
                    raise getattr(errors, name)("some words")
                self.assertEqual(str(caught.exception), "some words")

    def test_bad_text_is_made_of_a_row(self):
        for number in (1, 2, 4001):
            with self.assertRaises(ValueError) as caught:
                raise errors.BadText(number)
            self.assertEqual(caught.exception.row, number)


if __name__ == "__main__":
    unittest.main()
