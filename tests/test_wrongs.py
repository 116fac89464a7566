"""The errors of rigs."""

import unittest

from planetbox import errors, wrongs
from tests.support import ODD_VALUES

WITH_MESSAGE = (
    "InvalidRig InvalidBurdens InvalidCourse InvalidTorques InvalidFraction NotCarried NotSettled WouldBar NotARecord"
).split()
NAMES = (*WITH_MESSAGE, "InvalidWheel")


class WrongsTest(unittest.TestCase):
    def test_each_is_a_direct_subclass_of_the_base_alone(self):
        for name in NAMES:
            found = getattr(wrongs, name)
            self.assertEqual(found.__bases__, (errors.BoxError,), name)
            self.assertEqual(found.__name__, name)
            self.assertEqual(found.__module__, "planetbox.wrongs", name)

    def test_no_two_names_mean_one_class(self):
        self.assertEqual(len({getattr(wrongs, name) for name in NAMES}), 10)
        for first in NAMES:
            for second in NAMES:
                if first != second:
                    self.assertFalse(issubclass(getattr(wrongs, first), getattr(wrongs, second)))
            self.assertFalse(hasattr(errors, first))

    def test_created_with_a_message(self):
        for name in WITH_MESSAGE:
            with self.assertRaises(errors.BoxError) as caught:
                raise getattr(wrongs, name)("some words")
            self.assertIs(type(caught.exception), getattr(wrongs, name))
            self.assertIsInstance(caught.exception, ValueError)

    def test_the_wheel_is_kept_unchanged(self):
        for value in (*ODD_VALUES, 0, 1, 7, (), (1, (2,)), ("over", 1, 1), 10**999):
            with self.assertRaises(errors.BoxError) as caught:
                raise wrongs.InvalidWheel(value)
            self.assertIs(type(caught.exception), wrongs.InvalidWheel)
            self.assertIs(caught.exception.wheel, value)

    def test_a_kept_list_is_not_changed(self):
        value = [3, [1, "a"], None]
        error = wrongs.InvalidWheel(value)
        self.assertEqual(str(error), str(error))
        self.assertEqual(value, [3, [1, "a"], None])
        self.assertEqual(error.wheel, [3, [1, "a"], None])

    def test_two_errors_keep_their_own_wheels(self):
        first, second = wrongs.InvalidWheel(1), wrongs.InvalidWheel("b")
        self.assertEqual([first.wheel, second.wheel], [1, "b"])


if __name__ == "__main__":
    unittest.main()
