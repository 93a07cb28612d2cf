"""The interface: the classes of errors and their values."""

import unittest

from streetrounds import errors

VALUES = {
    "BadTown": ("number",),
    "BadTimes": ("number",),
    "NotOneWay": ("number",),
    "BadDeed": ("number",),
    "Halted": ("number", "done"),
    "Uneven": ("corner",),
    "BadText": ("row",),
    "NoCorner": (),
    "NoStreet": (),
    "NoRound": (),
    "TooMany": (),
}


class Errors(unittest.TestCase):
    def test_street_error_is_a_value_error(self):
        self.assertEqual(errors.StreetError.__bases__, (ValueError,))
        self.assertIsInstance(errors.StreetError("why"), ValueError)

    def test_each_class_stands_under_street_error_alone(self):
        for name in VALUES:
            with self.subTest(name=name):
                self.assertEqual(getattr(errors, name).__bases__, (errors.StreetError,))

    def test_no_class_is_another_one(self):
        for name in VALUES:
            for other in VALUES:
                if name != other:
                    self.assertFalse(issubclass(getattr(errors, name), getattr(errors, other)))

    def test_values_are_set_when_created(self):
        for name, values in VALUES.items():
            with self.subTest(name=name):
                numbers = list(range(7, 7 + len(values)))
                error = getattr(errors, name)(*numbers)
                self.assertEqual([getattr(error, value) for value in values], numbers)
                self.assertEqual(set(vars(error)), set(values))

    def test_values_stand_in_the_order_of_their_names(self):
        error = errors.Halted(number=3, done=2)
        self.assertEqual((error.number, error.done), (3, 2))

    def test_each_is_caught_as_a_value_error(self):
        for name, values in VALUES.items():
            with self.subTest(name=name), self.assertRaises(ValueError):
                raise getattr(errors, name)(*[0 for _ in values])


if __name__ == "__main__":
    unittest.main()
