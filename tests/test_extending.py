"""Point 12, and what point 3 says of parts of full sets."""

import unittest

from planetbox.errors import NotDriven
from planetbox.extending import complete, thin
from tests.support import CHAIN, PLANET, SAMPLES, BoxTest
from tests.support import cases, full_cases, full_sets_of, kind_of, needless_of


class CompleteTest(BoxTest):
    def test_every_set_of_every_sample(self):
        for box, engaged in cases():
            wider = [full for full in full_sets_of(box) if set(engaged) <= set(full)]
            found = complete(box, engaged)
            self.assertEqual(found, min(wider, default=None), (box, engaged))
            if found is not None:
                self.is_integer_tuple(found, len(found))

    def test_full_sets_stay(self):
        for box, engaged in full_cases():
            self.assertEqual(complete(box, engaged), engaged)

    def test_least(self):
        box = (3, (), (("brake", 2), ("clutch", 0, 2), ("brake", 1), ("clutch", 0, 1), ("clutch", 1, 2)))
        self.assertEqual([complete(box, ()), complete(box, (1,)), complete(box, (4,))], [(0, 2), (1, 2), (0, 4)])
        for full in ((2, 4), (3, 4), (0, 3)):
            self.assertEqual(complete(box, full), full)
        self.assertEqual(complete(CHAIN, (7,)), (0, 1, 2, 3, 4, 5, 7))

    def test_held_sets(self):
        for box, engaged in cases("held"):
            self.assertIsNone(complete(box, engaged))

    def test_sets_with_a_needless_device(self):
        for box, engaged in cases():
            if needless_of(box, engaged):
                self.assertIsNone(complete(box, engaged))

    def test_boxes_without_a_full_set(self):
        for box, engaged in cases():
            if not full_sets_of(box):
                self.assertIsNone(complete(box, engaged))
        self.assertIsNone(complete(SAMPLES["no full set"], ()))
        self.assertIsNone(complete(SAMPLES["bare"], ()))

    def test_part_of_a_full_set_exactly_if_not_held_and_without_needless_devices(self):
        for box, engaged in cases():
            if full_sets_of(box):
                fits = kind_of(box, engaged) != "held" and needless_of(box, engaged) == ()
                self.assertIs(complete(box, engaged) is not None, fits)

    def test_errors(self):
        self.checks_box_and_engaged(complete)

    def test_same_again(self):
        self.gives_the_same_again(complete, cases())


class ThinTest(BoxTest):
    def test_every_driven_set(self):
        for box, engaged in cases("driven"):
            found = thin(box, engaged)
            self.assertEqual(found, min(full for full in full_sets_of(box) if set(full) <= set(engaged)))
            self.is_integer_tuple(found, len(found))

    def test_full_sets_stay(self):
        for box, engaged in full_cases():
            self.assertEqual(thin(box, engaged), engaged)

    def test_least(self):
        box = (3, (), (("clutch", 0, 2), ("clutch", 1, 2), ("clutch", 0, 1), ("clutch", 0, 2)))
        thinned = [thin(box, (0, 1, 2, 3)), thin(box, (1, 2, 3)), thin(box, (0, 2, 3))]
        self.assertEqual(thinned, [(0, 1), (1, 2), (0, 2)])
        self.assertEqual(thin((2, (), (("clutch", 0, 1),) * 8), (2, 5, 7)), (2,))

    def test_nothing_left(self):
        box = (2, (("inner", 0, 20, 1, 20),), (("clutch", 0, 1), ("clutch", 0, 1)))
        self.assertEqual([thin(box, ()), thin(box, (0, 1))], [(), ()])

    def test_held_and_loose_sets(self):
        for box, engaged in cases("held", "loose"):
            self.fails(NotDriven, thin, box, engaged)
        self.fails(NotDriven, thin, PLANET, ())
        self.fails(NotDriven, thin, PLANET, (0, 1))

    def test_errors(self):
        self.checks_box_and_engaged(thin)

    def test_same_again(self):
        self.gives_the_same_again(thin, cases("driven"))


if __name__ == "__main__":
    unittest.main()
