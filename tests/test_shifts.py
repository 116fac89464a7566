"""Point 10, and what point 3 says of shifts."""

import unittest

from planetbox.errors import InvalidEngaged, NotFull
from planetbox.shifts import shift, swaps
from tests.support import CHAIN, PLANET, SAMPLES, BoxTest
from tests.support import full_cases, full_sets_of, is_swap, not_full_cases, wrong_engaged


class SwapsTest(BoxTest):
    def test_every_full_set(self):
        for box, engaged in full_cases():
            found = swaps(box, engaged)
            self.assertIs(type(found), list)
            self.assertEqual(found, [other for other in full_sets_of(box) if is_swap(engaged, other)])
            for other in found:
                self.is_integer_tuple(other, len(engaged))

    def test_by_hand(self):
        self.assertEqual(swaps(PLANET, (1,)), [(0,)])
        self.assertEqual(swaps(SAMPLES["driven by its gears"], ()), [])
        self.assertEqual(swaps((2, (), (("clutch", 0, 1),) * 4), (2,)), [(0,), (1,), (3,)])
        self.assertEqual(len(swaps(CHAIN, (0, 1, 2, 3, 4, 5, 6))), 7)

    def test_sets_that_are_not_full(self):
        for box, engaged in not_full_cases():
            self.fails(NotFull, swaps, box, engaged)

    def test_errors(self):
        self.checks_box_and_engaged(swaps)

    def test_new_lists(self):
        for box, engaged in full_cases():
            self.gives_new_lists(swaps, box, engaged)
        self.gives_the_same_again(swaps, full_cases())


class ShiftTest(BoxTest):
    def calls(self):
        return [(box, first, second) for box, first in full_cases() for second in full_sets_of(box)]

    def test_between_every_two_full_sets(self):
        for box, first, second in self.calls():
            found = shift(box, first, second)
            self.assertIs(type(found), list)
            self.assertEqual((found[0], found[-1]), (first, second))
            self.assertEqual(len(found) - 1, len(set(first) - set(second)))
            for engaged in found:
                self.is_integer_tuple(engaged, len(first))
                self.assertIn(engaged, full_sets_of(box))
            for before, after in zip(found, found[1:]):
                self.assertTrue(is_swap(before, after))

    def test_several_swaps(self):
        box = (5, (), tuple(("clutch", 0, shaft) for shaft in range(1, 5)) + tuple(("brake", k) for k in range(1, 5)))
        found = shift(box, (0, 1, 2, 3), (4, 5, 6, 7))
        self.assertEqual(len(found), 5)
        for before, after in zip(found, found[1:]):
            self.assertIn(after, swaps(box, before))

    def test_from_a_set_to_itself(self):
        for box, engaged in full_cases():
            self.assertEqual(shift(box, engaged, engaged), [engaged])

    def test_sets_that_are_not_full(self):
        for box, engaged in not_full_cases():
            self.fails(NotFull, shift, box, engaged, engaged)
            self.fails(NotFull, shift, box, engaged, ())
            for full in full_sets_of(box)[:2]:
                self.fails(NotFull, shift, box, engaged, full)
                self.fails(NotFull, shift, box, full, engaged)

    def test_both_sets_are_checked_before_either_is_found_not_full(self):
        for box, engaged in (*not_full_cases()[:40], (PLANET, ()), (PLANET, (0,)), (PLANET, (0, 1)), (CHAIN, (0,))):
            for wrong in wrong_engaged(box):
                self.fails(InvalidEngaged, shift, box, engaged, wrong)
                self.fails(InvalidEngaged, shift, box, wrong, engaged)

    def test_errors(self):
        for second in ((), (0,), (0, 1), None, [0]):
            self.checks_box_and_engaged(shift, second)

    def test_new_lists(self):
        for call in self.calls()[::3]:
            self.gives_new_lists(shift, *call)
        for box, engaged in full_cases():
            self.gives_new_lists(shift, box, engaged, engaged)
        self.gives_the_same_again(shift, self.calls())


if __name__ == "__main__":
    unittest.main()
