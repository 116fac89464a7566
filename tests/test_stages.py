"""What the stages say of one another: boxes reversed and joined, their speeds and full sets (9, 14, 15, 16)."""

import unittest
from fractions import Fraction

from planetbox.building import joined, reversed_box
from planetbox.errors import TooLarge
from planetbox.full import full_sets, is_full
from planetbox.kinds import kind
from planetbox.prices import cheapest
from planetbox.speeds import speed, speeds
from planetbox.turning import angles, first_return
from tests.support import PLANET, SAMPLES, BoxTest, engaged_sets, full_sets_of, kind_of

GEARED = (3, (("mesh", 0, 20, 1, 30), ("inner", 0, 21, 2, 6)), (("clutch", 1, 2), ("brake", 0), ("clutch", 0, 2)))
TWO_WAYS = (
    4,
    (("planet", 0, 31, 1, 73, 2), ("mesh", 0, 12, 1, 25)),
    (("clutch", 2, 3), ("brake", 3), ("clutch", 1, 3), ("clutch", 0, 3)),
)
BOXES = (*SAMPLES.values(), GEARED, TWO_WAYS)


def ratio(box, engaged, shaft):
    return Fraction(*speed(box, engaged, shaft))


def moved(engaged, by):
    return tuple(device + by for device in engaged)


def pairs():
    """Pairs of boxes that can be joined, with the joined box."""
    found = []
    for first in BOXES:
        for second in BOXES[::4] + (GEARED, TWO_WAYS):
            try:
                found.append((first, second, joined(first, second)))
            except TooLarge:
                pass
    return found


def driven_sets(box):
    return [engaged for engaged in engaged_sets(box) if kind_of(box, engaged) == "driven"]


class ReversedTest(BoxTest):
    def test_speeds(self):
        both = 0
        for box in BOXES:
            turned = reversed_box(box)
            last = box[0] - 1
            for engaged in engaged_sets(box):
                if kind(box, engaged) == "driven" and kind(turned, engaged) == "driven":
                    both += 1
                    for shaft in range(box[0]):
                        expected = ratio(box, engaged, last - shaft) / ratio(box, engaged, last)
                        self.assertEqual(ratio(turned, engaged, shaft), expected)
        self.assertGreater(both, 150)

    def test_driven_in_the_reversed_box_exactly_if_the_output_turns(self):
        for box in BOXES:
            turned = reversed_box(box)
            for engaged in driven_sets(box):
                expected = "driven" if ratio(box, engaged, box[0] - 1) else "held"
                self.assertEqual(kind(turned, engaged), expected)

    def test_speeds_of_the_box(self):
        for box in BOXES:
            expected = {1 / Fraction(*value): sets for value, sets in speeds(box) if value[0]}
            found = {Fraction(*value): sets for value, sets in speeds(reversed_box(box)) if value[0]}
            self.assertEqual(found, expected)


class JoinedTest(BoxTest):
    def test_speeds_multiply(self):
        many = 0
        for first, second, box in pairs():
            by = len(first[2])
            for one in driven_sets(first)[:6]:
                for other in driven_sets(second)[:6]:
                    engaged = one + moved(other, by)
                    many += 1
                    self.assertEqual(kind(box, engaged), "driven")
                    middle = ratio(first, one, first[0] - 1)
                    for shaft in range(first[0]):
                        self.assertEqual(ratio(box, engaged, shaft), ratio(first, one, shaft))
                    for shaft in range(second[0]):
                        expected = middle * ratio(second, other, shaft)
                        self.assertEqual(ratio(box, engaged, shaft + first[0] - 1), expected)
        self.assertGreater(many, 500)

    def test_full_sets_of_both(self):
        many = 0
        for first, second, box in pairs():
            by = len(first[2])
            for one in full_sets_of(first)[:5]:
                for other in full_sets_of(second)[:5]:
                    many += 1
                    self.assertIs(is_full(box, one + moved(other, by)), True)
        self.assertGreater(many, 300)

    def test_the_cheapest_set_of_both(self):
        box = joined(PLANET, PLANET)
        # The last one is not made of full sets of both boxes: it holds the second one.
        self.assertEqual(full_sets(box), [(0, 2), (0, 3), (1, 2), (1, 3), (2, 3)])
        for prices in ((5, 3, 2, 9), (0, 0, 0, 0), (1, 1, 1, 0)):
            expected = cheapest(PLANET, prices[:2]) + moved(cheapest(PLANET, prices[2:]), 2)
            self.assertEqual(cheapest(box, prices), expected)
        self.assertEqual(cheapest(box, (9, 9, 8, 8)), (2, 3))

    def test_reversed_and_joined(self):
        many = 0
        for first, second, box in pairs():
            other = joined(reversed_box(second), reversed_box(first))
            turned = reversed_box(box)
            # The parts are the same, but those of the second box come first in the other one.
            gears, devices = len(second[1]), len(second[2])
            self.assertEqual(turned[0], other[0])
            self.assertEqual(turned[1], other[1][gears:] + other[1][:gears])
            self.assertEqual(turned[2], other[2][devices:] + other[2][:devices])
            self.assertEqual([value for value, _ in speeds(turned)], [value for value, _ in speeds(other)])
            many += 1
        self.assertGreater(many, 200)

    def test_three_boxes(self):
        self.assertEqual(
            joined(joined(PLANET, GEARED), (2, (), (("brake", 1),))),
            joined(PLANET, joined(GEARED, (2, (), (("brake", 1),)))),
        )


class TurningTest(BoxTest):
    def test_first_return_of_the_reversed_box(self):
        for box in BOXES:
            turned = reversed_box(box)
            for engaged in driven_sets(box):
                if kind(turned, engaged) == "driven":
                    # All shafts have made whole turns in both boxes when they have made least ones.
                    expected = abs(first_return(box, engaged) * ratio(box, engaged, box[0] - 1))
                    self.assertEqual(first_return(turned, engaged), expected)

    def test_angles_of_the_joined_box(self):
        for first, second, box in pairs()[::5]:
            for one in full_sets_of(first)[:2]:
                for other in full_sets_of(second)[:2]:
                    found = angles(box, one + moved(other, len(first[2])), 12)
                    self.assertEqual(found[: first[0]], angles(first, one, 12))


if __name__ == "__main__":
    unittest.main()
