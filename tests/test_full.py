"""Point 9, and what point 3 says of full sets."""

import unittest

from planetbox.errors import InvalidBox
from planetbox.full import full_sets, is_full, needless, roles
from planetbox.kinds import kind
from tests.support import CHAIN, PLANET, SAMPLES, WRONG_BOXES, BoxTest
from tests.support import cases, copied, full_sets_of, is_full_of, more, needless_of

EIGHT_EQUAL = (2, (), (("clutch", 0, 1),) * 8)
HELD = ("held by its gears", "held by its gears, no device", "held by its gears, two shafts free")


class NeedlessTest(BoxTest):
    def test_every_set_of_every_sample(self):
        for box, engaged in cases():
            found = needless(box, engaged)
            self.is_integer_tuple(found, len(found))
            self.assertEqual(found, needless_of(box, engaged), (box, engaged))

    def test_equal_devices(self):
        self.assertEqual(needless(EIGHT_EQUAL, (3,)), ())
        self.assertEqual(needless(EIGHT_EQUAL, (3, 6)), (3, 6))
        self.assertEqual(needless(EIGHT_EQUAL, tuple(range(8))), tuple(range(8)))

    def test_a_device_that_the_gears_make_needless(self):
        box = (3, (("inner", 0, 20, 1, 20),), (("brake", 2), ("clutch", 0, 1), ("clutch", 1, 2)))
        self.assertEqual([needless(box, (1,)), needless(box, (0, 1)), needless(box, (0, 1, 2))], [(1,)] * 3)

    def test_a_device_needed_beside_needless_ones(self):
        box = (4, (), (("clutch", 0, 1), ("brake", 3), ("clutch", 1, 2), ("clutch", 0, 2)))
        self.assertEqual(needless(box, (0, 1, 2, 3)), (0, 2, 3))

    def test_errors(self):
        self.checks_box_and_engaged(needless)


class IsFullTest(BoxTest):
    def test_every_set_of_every_sample(self):
        for box, engaged in cases():
            self.assertIs(is_full(box, engaged), is_full_of(box, engaged), (box, engaged))

    def test_driven_but_with_a_needless_device(self):
        self.assertIs(is_full(EIGHT_EQUAL, (0,)), True)
        self.assertIs(is_full(EIGHT_EQUAL, (0, 1)), False)

    def test_held_with_the_freedom_of_a_full_set(self):
        box = (2, (), (("brake", 0), ("brake", 1)))
        self.assertEqual([is_full(box, (0,)), is_full(box, (1,))], [False, True])

    def test_the_empty_set(self):
        self.assertIs(is_full(SAMPLES["driven by its gears"], ()), True)
        self.assertIs(is_full(PLANET, ()), False)
        self.assertIs(is_full(SAMPLES["held by its gears"], ()), False)

    def test_errors(self):
        self.checks_box_and_engaged(is_full)


class FullSetsTest(BoxTest):
    def test_every_sample(self):
        for name, box in SAMPLES.items():
            found = full_sets(box)
            self.assertIs(type(found), list)
            self.assertEqual(found, full_sets_of(box), name)
            for engaged in found:
                self.is_integer_tuple(engaged, len(engaged))

    def test_ascending_order(self):
        for box in SAMPLES.values():
            found = full_sets(box)
            self.assertEqual(found, sorted(found))

    def test_equal_devices(self):
        self.assertEqual(full_sets(EIGHT_EQUAL), [(device,) for device in range(8)])

    def test_boxes_held_by_their_gears(self):
        for name in HELD:
            self.assertEqual(full_sets(SAMPLES[name]), [])

    def test_boxes_without_devices(self):
        self.assertEqual(full_sets((2, (), ())), [])
        self.assertEqual(full_sets((2, (("mesh", 0, 20, 1, 40),), ())), [()])
        self.assertEqual(full_sets((2, (("mesh", 0, 20, 1, 40), ("inner", 0, 20, 1, 40)), ())), [])

    def test_boxes_without_a_full_set(self):
        for name in ("no full set", "bare", "bare of eight shafts"):
            self.assertEqual(full_sets(SAMPLES[name]), [])
        self.assertEqual(full_sets((2, (), (("brake", 0),))), [])

    def test_eight_shafts_and_eight_devices(self):
        everything = tuple(range(8))
        expected = sorted(tuple(d for d in everything if d != off) for off in everything)
        self.assertEqual(full_sets(CHAIN), expected)
        self.assertEqual(len(full_sets(SAMPLES["eight shafts, eight devices"])), 40)

    def test_errors(self):
        for wrong in WRONG_BOXES:
            self.fails(InvalidBox, full_sets, wrong)

    def test_new_lists(self):
        for box in SAMPLES.values():
            self.gives_new_lists(full_sets, box)
        self.gives_the_same_again(full_sets, [(box,) for box in SAMPLES.values()])


class RolesTest(BoxTest):
    def test_every_sample(self):
        for name, box in SAMPLES.items():
            found = roles(box)
            self.assertIs(type(found), list)
            sets = full_sets_of(box)
            expected = []
            for device in range(len(box[2])):
                many = sum(device in engaged for engaged in sets)
                expected.append("never" if many == 0 else "always" if many == len(sets) else "sometimes")
            self.assertEqual(found, expected, name)

    def test_each_role(self):
        self.assertEqual(roles(SAMPLES["a device always"]), ["always", "sometimes", "sometimes", "never"])
        self.assertEqual(roles((2, (), (("clutch", 0, 1),))), ["always"])
        self.assertEqual(roles(CHAIN), ["sometimes"] * 8)
        self.assertEqual(roles(SAMPLES["driven by its gears"]), ["never"] * 3)

    def test_boxes_without_a_full_set(self):
        self.assertEqual(roles(SAMPLES["no full set"]), ["never"] * 3)
        self.assertEqual(roles(SAMPLES["held by its gears"]), ["never"])
        self.assertEqual(roles(SAMPLES["bare"]), [])

    def test_errors(self):
        for wrong in WRONG_BOXES:
            self.fails(InvalidBox, roles, wrong)

    def test_new_lists(self):
        for box in SAMPLES.values():
            self.gives_new_lists(roles, box)
        self.gives_the_same_again(roles, [(box,) for box in SAMPLES.values()])


class MainPromiseTest(BoxTest):
    def test_all_full_sets_are_driven_and_have_equally_many_devices(self):
        for box in SAMPLES.values():
            found = full_sets(box)
            self.assertLessEqual(len({len(engaged) for engaged in found}), 1)
            for engaged in found:
                self.assertEqual(kind(box, engaged), "driven")
                self.assertEqual(needless(box, engaged), ())
                self.assertIs(is_full(copied(box), engaged), True)

    def test_one_more_device(self):
        for box in SAMPLES.values():
            for engaged in full_sets(box):
                for device in range(len(box[2])):
                    if device not in engaged:
                        wider = more(engaged, device)
                        self.assertTrue(kind(box, wider) == "held" or device in needless(box, wider))
                        self.assertIs(is_full(box, wider), False)

    def test_part_of_a_full_set(self):
        for box in SAMPLES.values():
            found = full_sets(box)
            for one, engaged in cases():
                if one is box and found:
                    inside = any(set(engaged) <= set(full) for full in found)
                    self.assertIs(inside, kind(box, engaged) != "held" and needless(box, engaged) == ())


if __name__ == "__main__":
    unittest.main()
