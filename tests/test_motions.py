"""Point 6: motions and freedom."""

import unittest
from itertools import product

from planetbox.motions import freedom, is_motion
from tests.support import CHAIN, ODD_VALUES, PLANET, SAMPLES, BoxTest, cases, freedom_of, obeys


class IsMotionTest(BoxTest):
    def test_small_speeds(self):
        for box, engaged in cases():
            if box[0] <= 3:
                for speeds in product((-4, -2, -1, 0, 1, 2, 4), repeat=box[0]):
                    self.assertIs(is_motion(box, engaged, speeds), obeys(box, engaged, speeds))

    def test_planet_set(self):
        for speeds in product(range(-4, 21, 4), range(-4, 11), range(-4, 11)):
            for engaged in ((), (0,), (1,), (0, 1)):
                self.assertIs(is_motion(PLANET, engaged, speeds), obeys(PLANET, engaged, speeds))
        self.assertIs(is_motion(PLANET, (0,), (10, 0, 3)), True)
        self.assertIs(is_motion(PLANET, (0,), (-10, 0, -3)), True)
        self.assertIs(is_motion(PLANET, (1,), (10, 0, 3)), False)
        self.assertIs(is_motion(PLANET, (0,), (10, 1, 3)), False)

    def test_released_devices_do_not_matter(self):
        for engaged in ((), (0,)):
            self.assertIs(is_motion(CHAIN, engaged, (1, 1, 2, 3, 4, 5, 6, 7)), True)
        self.assertIs(is_motion(CHAIN, (1,), (1, 1, 2, 3, 4, 5, 6, 7)), False)
        self.assertIs(is_motion(CHAIN, (7,), (1, 1, 2, 3, 4, 5, 6, 7)), False)
        self.assertIs(is_motion(CHAIN, (7,), (1, 1, 2, 3, 4, 5, 6, 0)), True)

    def test_all_zeros(self):
        for box, engaged in cases():
            self.assertIs(is_motion(box, engaged, (0,) * box[0]), True)

    def test_great_speeds(self):
        great = 10**40
        self.assertIs(is_motion(PLANET, (0,), (10 * great, 0, 3 * great)), True)
        self.assertIs(is_motion(PLANET, (0,), (10 * great, 0, 3 * great + 1)), False)
        self.assertIs(is_motion(PLANET, (0,), (-10 * great + 1, 0, -3 * great)), False)

    def test_other_values(self):
        for box, engaged in cases():
            zeros = (0,) * box[0]
            wrongs = [*ODD_VALUES, (), list(zeros), zeros[1:], (*zeros, 0), (False,) * box[0], (None, *zeros[1:])]
            wrongs += [(*zeros[1:], False), (*zeros[1:], "0"), (*zeros[1:], []), (*zeros[1:], (0,)), "0" * box[0]]
            for wrong in wrongs:
                before = repr(wrong)
                self.assertIs(is_motion(box, engaged, wrong), False, (box, engaged, wrong))
                self.assertEqual(repr(wrong), before)

    def test_bools_are_no_speeds(self):
        box = SAMPLES["one clutch"]
        self.assertIs(is_motion(box, (0,), (1, 1)), True)
        for wrong in ((True, True), (1, True), (True, 1)):
            self.assertIs(is_motion(box, (0,), wrong), False)

    def test_errors(self):
        for value in ((10, 0, 3), None, [1]):
            self.checks_box_and_engaged(is_motion, value)


class FreedomTest(BoxTest):
    def test_every_set_of_every_sample(self):
        for box, engaged in cases():
            found = freedom(box, engaged)
            self.assertIs(type(found), int)
            self.assertEqual(found, freedom_of(box, engaged), (box, engaged))

    def test_boxes_without_gears(self):
        for shafts in range(2, 9):
            self.assertEqual(freedom((shafts, (), ()), ()), shafts)
            brakes = tuple(("brake", shaft) for shaft in range(shafts))
            for many in range(shafts + 1):
                self.assertEqual(freedom((shafts, (), brakes), tuple(range(many))), shafts - many)

    def test_equal_devices(self):
        box = (3, (), (("clutch", 0, 1),) * 8)
        self.assertEqual(freedom(box, (3,)), 2)
        self.assertEqual(freedom(box, (0, 7)), 2)
        self.assertEqual(freedom(box, tuple(range(8))), 2)

    def test_equations_that_are_sums_of_others(self):
        box = (3, (), (("clutch", 0, 1), ("clutch", 1, 2), ("clutch", 0, 2), ("brake", 0), ("brake", 1)))
        self.assertEqual(freedom(box, (0, 1, 2)), 1)
        self.assertEqual(freedom(box, (0, 3, 4)), 1)
        self.assertEqual(freedom(box, (0, 1, 2, 3, 4)), 0)
        self.assertEqual(freedom(SAMPLES["a gear twice"], ()), 2)
        self.assertEqual(freedom(SAMPLES["a gear that is a sum of others"], ()), 2)

    def test_eight_shafts(self):
        self.assertEqual([freedom(CHAIN, tuple(range(many))) for many in range(9)], [8, 7, 6, 5, 4, 3, 2, 1, 0])
        self.assertEqual(freedom(SAMPLES["six gears in a row"], ()), 2)

    def test_exact_numbers(self):
        self.assertEqual(freedom(SAMPLES["held by a hair"], ()), 0)
        self.assertEqual(freedom(SAMPLES["driven by a ring"], ()), 1)

    def test_gears_that_differ_by_one_tooth(self):
        gears = (("planet", 0, 199, 1, 200, 2), ("planet", 0, 200, 1, 199, 2))
        self.assertEqual(freedom((3, gears, ()), ()), 1)
        gears = (("planet", 0, 100, 1, 50, 2), ("planet", 0, 200, 1, 100, 2))
        self.assertEqual(freedom((3, gears, ()), ()), 2)

    def test_errors(self):
        self.checks_box_and_engaged(freedom)


if __name__ == "__main__":
    unittest.main()
