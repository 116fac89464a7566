"""Point 11, and what point 3 says of freed motions."""

import unittest

from planetbox.errors import InvalidDevice, InvalidShaft, NotFull
from planetbox.freed import freed_motion, loads
from planetbox.full import is_full
from planetbox.weights import shaft_weights
from tests.support import CHAIN, ODD_VALUES, PLANET, SAMPLES, BoxTest
from tests.support import divisor, dot, full_cases, less, more, not_full_cases, rank, row_of, rows_of
from tests.support import unit, wrong_shafts


class FreedMotionTest(BoxTest):
    def calls(self):
        return [(box, engaged, device) for box, engaged in full_cases() for device in engaged]

    def test_every_device_of_every_full_set(self):
        for box, engaged, device in self.calls():
            speeds = freed_motion(box, engaged, device)
            self.is_moving(box, less(engaged, device), speeds)
            self.assertEqual(speeds[0], 0)
            self.assertEqual(divisor(speeds), 1)
            self.assertGreater(next(speed for speed in speeds if speed), 0)
            self.assertNotEqual(dot(row_of(box, len(box[1]) + device), speeds), 0)

    def test_by_hand(self):
        self.assertEqual(freed_motion(PLANET, (1,), 1), (0, 10, 7))
        box = (4, (("mesh", 1, 20, 2, 40),), (("clutch", 0, 1), ("clutch", 2, 3), ("brake", 3), ("brake", 1)))
        self.assertEqual(freed_motion(box, (0, 1), 0), (0, 2, -1, -1))
        self.assertEqual(freed_motion(box, (0, 1), 1), (0, 0, 0, 1))
        self.assertEqual(freed_motion(box, (1, 3), 1), (0, 0, 0, 1))
        self.assertEqual(freed_motion(CHAIN, (0, 1, 2, 3, 4, 5, 6), 4), (0, 0, 0, 0, 0, 1, 1, 1))

    def test_sets_that_are_not_full(self):
        for box, engaged in not_full_cases():
            for device in (*engaged[:1], *engaged[-1:], 0, 9, None, True, [0]):
                self.fails(NotFull, freed_motion, box, engaged, device)

    def test_wrong_devices(self):
        for box, engaged in full_cases():
            wrongs = [*ODD_VALUES, len(box[2]), len(box[2]) + 1, "1", (), (0, 1)]
            wrongs += [device for device in range(len(box[2])) if device not in engaged]
            for wrong in wrongs:
                self.fails_with(InvalidDevice, "device", wrong, freed_motion, box, engaged, wrong)

    def test_errors(self):
        for device in (0, 1, None, True, [0]):
            self.checks_box_and_engaged(freed_motion, device)

    def test_same_again(self):
        self.gives_the_same_again(freed_motion, self.calls())


class LoadsTest(BoxTest):
    def calls(self):
        return [(box, engaged, shaft) for box, engaged in full_cases() for shaft in range(1, box[0])]

    def test_against_freed_motions(self):
        for box, engaged, shaft in self.calls():
            found = loads(box, engaged, shaft)
            self.assertIs(type(found), list)
            self.is_integer_tuple(tuple(found), len(found))
            moved = [device for device in engaged if freed_motion(box, engaged, device)[shaft] != 0]
            self.assertEqual(found, moved)

    def test_against_weights(self):
        for box, engaged, shaft in self.calls():
            weights = shaft_weights(box, engaged, shaft)[len(box[1]) :]
            carrying = [device for device, weight in enumerate(weights) if weight != 0]
            self.assertEqual(loads(box, engaged, shaft), carrying)

    def test_against_ranks(self):
        for box, engaged, shaft in self.calls():
            carrying = []
            for device in engaged:
                rows = (*rows_of(box, less(engaged, device)), unit(box, 0))
                if rank((*rows, unit(box, shaft))) > rank(rows):
                    carrying.append(device)
            self.assertEqual(loads(box, engaged, shaft), carrying)

    def test_by_hand(self):
        box = (4, (), (("clutch", 0, 2), ("clutch", 2, 3), ("brake", 1), ("brake", 3)))
        self.assertEqual([loads(box, (0, 1, 2), shaft) for shaft in (1, 2, 3)], [[2], [0], [0, 1]])
        self.assertEqual([loads(box, (0, 2, 3), shaft) for shaft in (1, 2, 3)], [[2], [0], [3]])
        self.assertEqual(loads(SAMPLES["driven by its gears"], (), 1), [])

    def test_sets_that_are_not_full(self):
        for box, engaged in not_full_cases():
            for shaft in (1, 0, box[0], None, True, [1]):
                self.fails(NotFull, loads, box, engaged, shaft)

    def test_wrong_shafts(self):
        for box, engaged in full_cases():
            for wrong in wrong_shafts(box):
                self.fails_with(InvalidShaft, "shaft", wrong, loads, box, engaged, wrong)

    def test_errors(self):
        for shaft in (1, 0, None, True, [1]):
            self.checks_box_and_engaged(loads, shaft)

    def test_new_lists(self):
        for call in self.calls():
            self.gives_new_lists(loads, *call)
        self.gives_the_same_again(loads, self.calls())


class MainPromiseTest(BoxTest):
    def test_a_swap_is_full_exactly_if_the_freed_motion_breaks_the_new_equation(self):
        for box, engaged in full_cases():
            for off in engaged:
                speeds = freed_motion(box, engaged, off)
                for on in range(len(box[2])):
                    if on not in engaged:
                        breaks = dot(row_of(box, len(box[1]) + on), speeds) != 0
                        swapped = more(less(engaged, off), on)
                        self.assertIs(is_full(box, swapped), breaks)


if __name__ == "__main__":
    unittest.main()
