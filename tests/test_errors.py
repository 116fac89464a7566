"""Point 2 and the interface: the classes of errors."""

import unittest

from planetbox import errors
from tests.support import ODD_VALUES

WITH_MESSAGE = (
    "InvalidBox InvalidEngaged InvalidWeights InvalidPrices InvalidNumber NotHeld NotLoose NotDriven NotFull "
    "WouldHold TooLarge NotACertificate"
).split()

WITH_VALUE = {
    "InvalidPart": "part",
    "InvalidShaft": "shaft",
    "InvalidDevice": "device",
    "IsEngaged": "device",
    "IsReleased": "device",
    "Full": "limit",
    "InvalidMark": "number",
}


class ErrorsTest(unittest.TestCase):
    def test_base_is_a_direct_subclass_of_value_error(self):
        self.assertEqual(errors.BoxError.__bases__, (ValueError,))
        self.assertEqual(errors.BoxError.__module__, "planetbox.errors")

    def test_each_is_a_direct_subclass_of_the_base_alone(self):
        for name in (*WITH_MESSAGE, *WITH_VALUE):
            found = getattr(errors, name)
            self.assertEqual(found.__bases__, (errors.BoxError,), name)
            self.assertEqual(found.__name__, name)
            self.assertEqual(found.__module__, "planetbox.errors", name)

    def test_no_two_names_mean_one_class(self):
        names = (*WITH_MESSAGE, *WITH_VALUE)
        self.assertEqual(len({getattr(errors, name) for name in names}), 19)

    def test_created_with_a_message(self):
        for name in (*WITH_MESSAGE, "BoxError"):
            with self.assertRaises(errors.BoxError) as caught:
                raise getattr(errors, name)("some words")
            self.assertIs(type(caught.exception), getattr(errors, name))

    def test_value_is_kept_unchanged(self):
        values = (*ODD_VALUES, 0, 1, 7, (), (1, (2,)), 10**900)
        for name, attribute in WITH_VALUE.items():
            for value in values:
                with self.assertRaises(errors.BoxError) as caught:
                    raise getattr(errors, name)(value)
                kept = getattr(caught.exception, attribute)
                self.assertIs(type(caught.exception), getattr(errors, name))
                self.assertIs(type(kept), type(value))
                self.assertEqual(kept, value)

    def test_kept_list_is_not_changed(self):
        for name, attribute in WITH_VALUE.items():
            value = [3, [1, "a"], None]
            error = getattr(errors, name)(value)
            self.assertEqual(str(error), str(error))
            self.assertEqual(value, [3, [1, "a"], None])
            self.assertEqual(getattr(error, attribute), [3, [1, "a"], None])

    def test_two_errors_keep_their_own_values(self):
        for name, attribute in WITH_VALUE.items():
            first, second = getattr(errors, name)(1), getattr(errors, name)("b")
            self.assertEqual([getattr(first, attribute), getattr(second, attribute)], [1, "b"])


if __name__ == "__main__":
    unittest.main()
