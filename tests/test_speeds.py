"""Point 14: speeds as fractions."""

import unittest
from fractions import Fraction
from math import gcd

from planetbox.errors import InvalidBox, InvalidEngaged, InvalidShaft, NotDriven
from planetbox.speeds import speed, speeds
from tests.support import CHAIN, ODD_VALUES, PLANET, SAMPLES, WRONG_BOXES, BoxTest
from tests.support import cases, full_sets_of, obeys, wrong_engaged

TURNING = (4, (("mesh", 0, 20, 1, 40), ("inner", 1, 30, 2, 20), ("mesh", 2, 21, 3, 14)), ())
STAR = (
    8,
    (("mesh", 0, 20, 1, 30), ("mesh", 0, 30, 2, 20), ("inner", 0, 60, 3, 6), ("inner", 0, 6, 4, 60)),
    tuple(("clutch", k, 7) for k in range(5)) + (("brake", 7), ("clutch", 5, 6), ("brake", 6)),
)
SHARED = (
    3,
    (),
    (("clutch", 0, 1), ("clutch", 1, 2), ("brake", 1), ("brake", 2), ("clutch", 0, 2)) + (("brake", 1),) * 3,
)
MANY_SPEEDS = (
    8,
    (("planet", 0, 197, 1, 199, 2), ("planet", 2, 191, 3, 193, 4))
    + (("planet", 4, 179, 5, 181, 6), ("mesh", 6, 30, 7, 40)),
    (("brake", 1), ("brake", 3), ("brake", 5), ("clutch", 0, 1))
    + (("clutch", 2, 3), ("clutch", 4, 5), ("clutch", 1, 5), ("clutch", 3, 6)),
)
BOXES = (*SAMPLES.values(), TURNING, STAR, SHARED, MANY_SPEEDS)


def driven_cases():
    others = (TURNING, STAR, SHARED, MANY_SPEEDS)
    return cases("driven") + [(box, engaged) for box in others for engaged in full_sets_of(box)]


def wrong_shafts_of_all(box):
    """Values that are not shafts: the input is one."""
    return [value for value in ODD_VALUES if value not in (0, 1) or type(value) is bool] + [
        box[0],
        box[0] + 1,
        -box[0],
        (0,),
        (1,),
        [1],
        "1",
    ]


class SpeedTest(BoxTest):
    def is_fraction(self, value):
        self.is_integer_tuple(value, 2)
        self.assertGreater(value[1], 0)
        self.assertEqual(gcd(*value), 1)

    def test_every_shaft_of_every_driven_set(self):
        for box, engaged in driven_cases():
            found = [speed(box, engaged, shaft) for shaft in range(box[0])]
            for value in found:
                self.is_fraction(value)
            # A driven set has one motion with speed 1 of the input, so these can only be the speeds.
            self.assertEqual(found[0], (1, 1))
            self.assertTrue(obeys(box, engaged, [Fraction(*value) for value in found]), (box, engaged, found))

    def test_by_hand(self):
        self.assertEqual([speed(PLANET, (0,), shaft) for shaft in range(3)], [(1, 1), (0, 1), (3, 10)])
        self.assertEqual([speed(PLANET, (1,), shaft) for shaft in range(3)], [(1, 1)] * 3)
        self.assertEqual(speed((2, (("mesh", 0, 6, 1, 200),), ()), (), 1), (-3, 100))
        self.assertEqual(speed((2, (("mesh", 0, 200, 1, 6),), ()), (), 1), (-100, 3))

    def test_shafts_that_turn_backwards(self):
        found = [speed(TURNING, (), shaft) for shaft in range(4)]
        self.assertEqual(found, [(1, 1), (-1, 2), (-3, 4), (9, 8)])

    def test_shafts_at_rest(self):
        self.assertEqual(speed((2, (), (("brake", 1),)), (0,), 1), (0, 1))
        self.assertEqual([speed(STAR, (5, 6, 7), shaft) for shaft in (5, 6, 7)], [(0, 1)] * 3)
        self.assertEqual([speed(CHAIN, tuple(range(7)), shaft) for shaft in range(8)], [(1, 1)] * 8)

    def test_held_and_loose_sets(self):
        for box, engaged in cases("held", "loose"):
            for shaft in (0, 1, box[0] - 1, box[0], True, None, [1]):
                self.fails(NotDriven, speed, box, engaged, shaft)

    def test_wrong_shafts(self):
        for box, engaged in driven_cases():
            for wrong in wrong_shafts_of_all(box):
                self.fails_with(InvalidShaft, "shaft", wrong, speed, box, engaged, wrong)

    def test_order(self):
        for shaft in (0, 1, 3, None, True, [1]):
            self.checks_box_and_engaged(speed, shaft)
        self.checks_order(
            speed,
            (PLANET, (0,), 0),
            (InvalidBox, 0, WRONG_BOXES),
            (InvalidEngaged, 1, wrong_engaged(PLANET)),
            (NotDriven, 1, [(), (0, 1)]),
            (InvalidShaft, 2, wrong_shafts_of_all(PLANET)),
        )

    def test_same_again(self):
        self.gives_the_same_again(
            speed, [(box, engaged, shaft) for box, engaged in driven_cases() for shaft in range(box[0])]
        )


class SpeedsTest(BoxTest):
    def test_every_sample(self):
        for box in BOXES:
            by_speed = {}
            for engaged in full_sets_of(box):
                by_speed.setdefault(Fraction(*speed(box, engaged, box[0] - 1)), []).append(engaged)
            expected = [((value.numerator, value.denominator), by_speed[value]) for value in sorted(by_speed)]
            found = speeds(box)
            self.assertIs(type(found), list)
            self.assertEqual(found, expected, box)
            for entry in found:
                self.assertIs(type(entry), tuple)
                self.is_integer_tuple(entry[0], 2)
                self.assertIs(type(entry[1]), list)
                for engaged in entry[1]:
                    self.is_integer_tuple(engaged, len(engaged))

    def test_lesser_ones_first_as_numbers(self):
        sets = [(0, 6, 7), (1, 6, 7), (2, 6, 7), (3, 6, 7), (4, 6, 7), (5, 6, 7)]
        speeds_by_hand = [((-3, 2), 2), ((-2, 3), 1), ((0, 1), 5), ((1, 10), 4), ((1, 1), 0), ((10, 1), 3)]
        self.assertEqual(speeds(STAR), [(value, [sets[at]]) for value, at in speeds_by_hand])

    def test_many_equal_speeds(self):
        self.assertEqual(
            speeds(SHARED),
            [
                ((0, 1), [(0, 3), (1, 2), (1, 3), (1, 5), (1, 6), (1, 7), (2, 3), (3, 5), (3, 6), (3, 7)]),
                ((1, 1), [(0, 1), (0, 4), (1, 4), (2, 4), (4, 5), (4, 6), (4, 7)]),
            ],
        )
        self.assertEqual(speeds((2, (), (("clutch", 0, 1),) * 8)), [((1, 1), [(k,) for k in range(8)])])
        self.assertEqual([len(sets) for _, sets in speeds(CHAIN)], [7, 1])

    def test_eight_shafts_and_eight_devices(self):
        found = speeds(MANY_SPEEDS)
        self.assertEqual(len(found), 14)
        self.assertEqual([Fraction(*value) for value, _ in found], sorted({Fraction(*value) for value, _ in found}))
        self.assertGreater(len({value[1] for value, _ in found}), 5)
        self.assertEqual([value for value, _ in found[:3]], [(-3, 4), (-103693, 184320), (-197, 528)])
        self.assertEqual(found[2][1], [(0, 4, 5), (0, 4, 7), (0, 5, 7)])
        self.assertEqual(len(speeds(SAMPLES["eight shafts, eight devices"])), 7)

    def test_boxes_without_a_full_set(self):
        for box in BOXES:
            if not full_sets_of(box):
                self.assertEqual(speeds(box), [])
        self.assertEqual(speeds(SAMPLES["no full set"]), [])
        self.assertEqual(speeds((2, (), ())), [])

    def test_boxes_driven_by_their_gears(self):
        self.assertEqual(speeds(TURNING), [((9, 8), [()])])

    def test_wrong_boxes(self):
        for wrong in WRONG_BOXES:
            self.fails(InvalidBox, speeds, wrong)

    def test_new_lists(self):
        for box in BOXES:
            self.gives_new_lists(speeds, box)
            kept = repr(speeds(box))
            for _, sets in speeds(box):
                sets.append("spoilt")
                sets.reverse()
            self.assertEqual(repr(speeds(box)), kept)
            first, second = speeds(box), speeds(box)
            for (_, one), (_, other) in zip(first, second):
                self.assertIsNot(one, other)
        self.gives_the_same_again(speeds, [(box,) for box in BOXES])


if __name__ == "__main__":
    unittest.main()
