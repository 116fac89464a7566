"""Point 7, and what point 3 says of the kinds: held, loose and driven."""

import unittest

from planetbox.errors import NotDriven, NotLoose
from planetbox.kinds import kind, motion, two_motions
from planetbox.motions import freedom, is_motion
from tests.support import CHAIN, PLANET, SAMPLES, BoxTest, cases, divisor, kind_of


class KindTest(BoxTest):
    def test_every_set_of_every_sample(self):
        for box, engaged in cases():
            self.assertEqual(kind(box, engaged), kind_of(box, engaged), (box, engaged))

    def test_held_although_other_shafts_move(self):
        box = (3, (), (("brake", 0), ("clutch", 0, 1), ("brake", 1)))
        self.assertEqual(freedom(box, (0,)), 2)
        self.assertEqual([kind(box, (0,)), kind(box, (0, 1)), kind(box, (1, 2))], ["held"] * 3)
        self.assertEqual(freedom(box, (0, 1)), 1)

    def test_held_by_the_gears_alone(self):
        for name in ("held by its gears", "held by its gears, no device", "held by three meshing wheels"):
            self.assertEqual(kind(SAMPLES[name], ()), "held")
        box = SAMPLES["held by its gears, two shafts free"]
        self.assertEqual([kind(box, ()), kind(box, (0, 1, 2))], ["held", "held"])

    def test_driven_by_the_gears_alone(self):
        self.assertEqual(kind(SAMPLES["driven by its gears, no device"], ()), "driven")

    def test_loose(self):
        self.assertEqual(kind((2, (), ()), ()), "loose")
        self.assertEqual(kind(CHAIN, (7,)), "loose")

    def test_exact_numbers(self):
        self.assertEqual(kind(SAMPLES["held by a hair"], ()), "held")
        self.assertEqual(kind(SAMPLES["driven by a ring"], ()), "driven")

    def test_driven_with_an_output_at_rest(self):
        box = (2, (), (("brake", 1),))
        self.assertEqual([kind(box, (0,)), motion(box, (0,))], ["driven", (1, 0)])

    def test_errors(self):
        self.checks_box_and_engaged(kind)


class MotionTest(BoxTest):
    def test_every_driven_set(self):
        for box, engaged in cases("driven"):
            speeds = motion(box, engaged)
            self.is_moving(box, engaged, speeds)
            self.assertGreater(speeds[0], 0)
            self.assertEqual(divisor(speeds), 1)
            self.assertIs(is_motion(box, engaged, speeds), True)

    def test_ordinary_boxes(self):
        self.assertEqual(motion(PLANET, (1,)), (1, 1, 1))
        self.assertEqual(motion((2, (("mesh", 0, 20, 1, 40),), ()), ()), (2, -1))
        self.assertEqual(motion((2, (("mesh", 1, 20, 0, 45),), ()), ()), (4, -9))
        self.assertEqual(motion((2, (("inner", 0, 20, 1, 60),), ()), ()), (3, 1))
        self.assertEqual(motion(SAMPLES["driven by its gears, no device"], ()), (8, -4, -1))

    def test_entries_of_zero(self):
        self.assertEqual(motion((4, (), (("brake", 1), ("brake", 2), ("brake", 3))), (0, 1, 2)), (1, 0, 0, 0))

    def test_great_speeds(self):
        gears = tuple(("mesh", k, 199, k + 1, 200) for k in range(6))
        speeds = tuple((-1) ** k * 200 ** (6 - k) * 199**k for k in range(7))
        self.assertEqual(motion((7, gears, ()), ()), speeds)
        gears = tuple(("inner", k + 1, 6, k, 200) for k in range(6))
        self.assertEqual(motion((7, gears, ()), ()), tuple(3 ** (6 - k) * 100**k for k in range(7)))

    def test_held_and_loose_sets(self):
        for box, engaged in cases("held", "loose"):
            self.fails(NotDriven, motion, box, engaged)

    def test_errors(self):
        self.checks_box_and_engaged(motion)

    def test_same_again(self):
        self.gives_the_same_again(motion, cases("driven"))


class TwoMotionsTest(BoxTest):
    def check(self, box, engaged):
        found = two_motions(box, engaged)
        self.assertIs(type(found), tuple)
        first, second = found
        self.is_moving(box, engaged, first)
        self.is_moving(box, engaged, second)
        self.assertNotEqual(first[0], 0)
        self.assertEqual(second[0], 0)
        self.assertTrue(any(second))

    def test_every_loose_set(self):
        for box, engaged in cases("loose"):
            self.check(box, engaged)

    def test_a_shaft_that_stands_still_in_every_motion(self):
        for shaft in range(1, 4):
            box = (4, (), (("brake", shaft),))
            self.check(box, (0,))
            self.assertEqual([speeds[shaft] for speeds in two_motions(box, (0,))], [0, 0])
        box = (4, (), (("brake", 1), ("brake", 2)))
        self.check(box, (0, 1))
        self.assertNotEqual(two_motions(box, (0, 1))[1][3], 0)

    def test_a_shaft_that_turns_with_the_input(self):
        self.check((3, (("mesh", 0, 20, 1, 40),), ()), ())
        self.check((4, (("mesh", 0, 20, 2, 40),), (("clutch", 1, 3),)), (0,))

    def test_held_and_driven_sets(self):
        for box, engaged in cases("held", "driven"):
            self.fails(NotLoose, two_motions, box, engaged)

    def test_errors(self):
        self.checks_box_and_engaged(two_motions)

    def test_same_again(self):
        self.gives_the_same_again(two_motions, cases("loose"))


class MainPromiseTest(BoxTest):
    def test_exactly_one_kind_is_shown(self):
        for box, engaged in cases():
            found = kind(box, engaged)
            self.assertIn(found, ("held", "loose", "driven"))
            if found == "driven":
                self.assertEqual(freedom(box, engaged), 1)
            if found == "loose":
                self.assertGreater(freedom(box, engaged), 1)


if __name__ == "__main__":
    unittest.main()
