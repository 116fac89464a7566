"""Point 15: how far the shafts turn with the input."""

import unittest
from fractions import Fraction
from math import gcd

from planetbox.errors import InvalidBox, InvalidEngaged, InvalidNumber, NotDriven
from planetbox.speeds import speed
from planetbox.turning import angles, first_return
from tests.support import CHAIN, PLANET, SAMPLES, WRONG_BOXES, BoxTest
from tests.support import cases, obeys, wrong_engaged, wrong_numbers

TURNS = (-1000, -999, -360, -7, -1, 0, 1, 2, 10, 999, 1000)


class AnglesTest(BoxTest):
    def are_fractions(self, value, many):
        self.assertIs(type(value), tuple)
        self.assertEqual(len(value), many)
        for entry in value:
            self.is_integer_tuple(entry, 2)
            self.assertGreater(entry[1], 0)
            self.assertEqual(gcd(*entry), 1)

    def test_every_driven_set(self):
        for box, engaged in cases("driven"):
            for turns in TURNS:
                found = angles(box, engaged, turns)
                self.are_fractions(found, box[0])
                # A driven set has one motion with this speed of the input, so these can only be the angles.
                self.assertEqual(found[0], (turns, 1))
                self.assertTrue(obeys(box, engaged, [Fraction(*entry) for entry in found]), (box, engaged, turns))

    def test_number_of_turns_times_speed(self):
        for box, engaged in cases("driven")[::3]:
            for turns in TURNS:
                for shaft, angle in enumerate(angles(box, engaged, turns)):
                    self.assertEqual(Fraction(*angle), turns * Fraction(*speed(box, engaged, shaft)))

    def test_by_hand(self):
        self.assertEqual(angles(PLANET, (0,), 1), ((1, 1), (0, 1), (3, 10)))
        self.assertEqual(angles(PLANET, (0,), -1), ((-1, 1), (0, 1), (-3, 10)))
        self.assertEqual(angles(PLANET, (0,), 0), ((0, 1), (0, 1), (0, 1)))
        self.assertEqual(angles(PLANET, (0,), 1000), ((1000, 1), (0, 1), (300, 1)))
        self.assertEqual(angles(PLANET, (0,), -1000), ((-1000, 1), (0, 1), (-300, 1)))
        self.assertEqual(angles(PLANET, (1,), 7), ((7, 1),) * 3)
        self.assertEqual(angles((2, (("mesh", 0, 20, 1, 30),), ()), (), 4), ((4, 1), (-8, 3)))
        self.assertEqual(angles(CHAIN, tuple(range(7)), -6), ((-6, 1),) * 8)

    def test_two_numbers_of_turns_add_up(self):
        for box, engaged in cases("driven")[::2]:
            for first, second in ((1, 1), (-1, 1), (400, 600), (-1000, 3), (-77, -123), (0, 5), (1000, -1000)):
                both = zip(angles(box, engaged, first), angles(box, engaged, second))
                together = [Fraction(*one) + Fraction(*other) for one, other in both]
                self.assertEqual([Fraction(*entry) for entry in angles(box, engaged, first + second)], together)

    def test_wrong_numbers(self):
        for box, engaged in cases("driven"):
            for wrong in wrong_numbers(-1000, 1000):
                self.fails(InvalidNumber, angles, box, engaged, wrong)
        for wrong in (-1001, 1001, True, False, None, "5", (5,), [5], 10**900):
            self.fails(InvalidNumber, angles, PLANET, (0,), wrong)

    def test_held_and_loose_sets(self):
        for box, engaged in cases("held", "loose"):
            for turns in (0, 5, 1001, True, None):
                self.fails(NotDriven, angles, box, engaged, turns)

    def test_order(self):
        for turns in (0, 5, -1001, None, True, [1]):
            self.checks_box_and_engaged(angles, turns)
        self.checks_order(
            angles,
            (PLANET, (0,), 5),
            (InvalidBox, 0, WRONG_BOXES),
            (InvalidEngaged, 1, wrong_engaged(PLANET)),
            (NotDriven, 1, [(), (0, 1)]),
            (InvalidNumber, 2, wrong_numbers(-1000, 1000)),
        )

    def test_same_again(self):
        self.gives_the_same_again(
            angles, [(box, engaged, turns) for box, engaged in cases("driven") for turns in (-3, 0, 17)]
        )


class FirstReturnTest(BoxTest):
    def test_every_driven_set(self):
        for box, engaged in cases("driven"):
            found = first_return(box, engaged)
            self.assertIs(type(found), int)
            self.assertGreater(found, 0)
            # A number of turns returns all shafts exactly if it is a multiple of all second numbers.
            speeds = [Fraction(*speed(box, engaged, shaft)) for shaft in range(box[0])]
            self.assertTrue(all((found * value).denominator == 1 for value in speeds))
            for factor in prime_factors(found):
                self.assertFalse(all((found // factor * value).denominator == 1 for value in speeds))

    def test_by_angles(self):
        many = 0
        for box, engaged in cases("driven"):
            found = first_return(box, engaged)
            if found <= 1000:
                self.assertEqual({entry[1] for entry in angles(box, engaged, found)}, {1})
                self.assertEqual({entry[1] for entry in angles(box, engaged, -found)}, {1})
                many += 1
                for turns in range(1, found):
                    self.assertNotEqual({entry[1] for entry in angles(box, engaged, turns)}, {1})
        self.assertGreater(many, 50)

    def test_by_hand(self):
        self.assertEqual(first_return(PLANET, (1,)), 1)
        self.assertEqual(first_return((2, (("mesh", 0, 6, 1, 200),), ()), ()), 100)
        self.assertEqual(first_return((2, (("mesh", 0, 200, 1, 6),), ()), ()), 3)
        self.assertEqual(first_return((2, (), (("brake", 1),)), (0,)), 1)
        self.assertEqual(first_return((3, (("mesh", 0, 30, 1, 20), ("inner", 0, 20, 2, 30)), ()), ()), 6)
        self.assertEqual(first_return((3, (("mesh", 0, 30, 1, 40), ("inner", 0, 50, 2, 60)), ()), ()), 12)
        self.assertEqual(first_return(SAMPLES["driven by its gears"], ()), 8)

    def test_held_and_loose_sets(self):
        for box, engaged in cases("held", "loose"):
            self.fails(NotDriven, first_return, box, engaged)

    def test_errors(self):
        self.checks_box_and_engaged(first_return)

    def test_same_again(self):
        self.gives_the_same_again(first_return, cases("driven"))


def prime_factors(number):
    """The prime factors of a number, as far as they are below 1000, and what is left of it."""
    found = [factor for factor in range(2, 1000) if number % factor == 0 and all(factor % k for k in range(2, factor))]
    for factor in found:
        while number % factor == 0:
            number //= factor
    return found + [number] * (number > 1)


if __name__ == "__main__":
    unittest.main()
