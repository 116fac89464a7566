"""Point 13, and what point 3 says of prices."""

import unittest

from planetbox.errors import InvalidBox, InvalidEngaged, InvalidPrices, NotFull
from planetbox.prices import cheaper_swap, cheapest, falling_shift
from planetbox.shifts import swaps
from tests.support import CHAIN, PLANET, SAMPLES, WRONG_BOXES, BoxTest
from tests.support import full_cases, full_sets_of, is_swap, needless_of, not_full_cases, numbers
from tests.support import engaged_sets, kind_of, wrong_engaged, wrong_rows

WHEEL = (5, (), tuple(("clutch", 0, shaft) for shaft in range(1, 5)) + tuple(("brake", k) for k in range(1, 5)))
PAIRS = (3, (), (("clutch", 0, 1),) * 2 + (("clutch", 0, 2),) * 2 + (("clutch", 1, 2), ("brake", 1)))
BOXES = (*SAMPLES.values(), WHEEL, PAIRS)


def price(engaged, prices):
    return sum(price for device, price in enumerate(prices) if device in engaged)


def prices_for(box):
    """Several prices for the box: equal ones, the least and the greatest ones, rising and falling ones, any ones."""
    many = len(box[2])
    stream = numbers(many + 5)
    found = [(0,) * many, (7,) * many, (1000,) * many, tuple(range(many)), tuple(range(many, 0, -1))]
    found += [tuple(next(stream) % 2 * 1000 for _ in range(many)) for _ in range(2)]
    found += [tuple(next(stream) % 3 for _ in range(many)) for _ in range(3)]
    found += [tuple(next(stream) % 1001 for _ in range(many)) for _ in range(3)]
    return found


def cheapest_by_count(box, prices):
    """The least of the cheapest sets among all full sets, or None."""
    return min(((price(engaged, prices), engaged) for engaged in full_sets_of(box)), default=(None, None))[1]


def calls():
    sets = full_cases() + [(box, engaged) for box in (WHEEL, PAIRS) for engaged in full_sets_of(box)]
    return [(box, engaged, prices) for box, engaged in sets for prices in prices_for(box)]


class CheapestTest(BoxTest):
    def test_every_sample(self):
        for box in BOXES:
            for prices in prices_for(box):
                found = cheapest(box, prices)
                self.assertEqual(found, cheapest_by_count(box, prices), (box, prices))
                if found is not None:
                    self.is_integer_tuple(found, len(full_sets_of(box)[0]))
                    self.assertEqual(needless_of(box, found), ())

    def test_by_hand(self):
        self.assertEqual(cheapest(PLANET, (3, 5)), (0,))
        self.assertEqual(cheapest(PLANET, (4, 4)), (0,))
        self.assertEqual(cheapest(PLANET, (1, 0)), (1,))
        self.assertEqual(cheapest(WHEEL, (1, 1, 1, 1, 0, 1, 0, 1)), (1, 3, 4, 6))
        self.assertEqual(cheapest(CHAIN, (0, 0, 0, 1000, 0, 0, 0, 1000)), (0, 1, 2, 3, 4, 5, 6))
        self.assertEqual(cheapest(CHAIN, (0, 0, 0, 1000, 0, 0, 0, 999)), (0, 1, 2, 4, 5, 6, 7))

    def test_the_least_in_ascending_order_of_equal_ones(self):
        self.assertEqual(cheapest(PAIRS, (5, 5, 5, 5, 5, 5)), (0, 2))
        self.assertEqual(cheapest(PAIRS, (5, 4, 5, 4, 5, 5)), (1, 3))
        self.assertEqual(cheapest((2, (), (("clutch", 0, 1),) * 8), (9, 3, 4, 3, 3, 9, 9, 3)), (1,))
        self.assertEqual(cheapest(WHEEL, (1000,) * 8), (0, 1, 2, 3))

    def test_sets_that_are_not_full_do_not_count(self):
        cheaper = 0
        for box in BOXES:
            for prices in prices_for(box):
                found = cheapest(box, prices)
                if found is not None:
                    driven = [price(one, prices) for one in engaged_sets(box) if kind_of(box, one) == "driven"]
                    self.assertEqual(price(found, prices), min(driven))
                    loose = [price(one, prices) for one in engaged_sets(box) if kind_of(box, one) == "loose"]
                    cheaper += min(loose, default=price(found, prices)) < price(found, prices)
        self.assertGreater(cheaper, 0)

    def test_boxes_without_a_full_set(self):
        found = [(box, prices) for box in BOXES if not full_sets_of(box) for prices in prices_for(box)]
        self.assertGreater(len(found), 20)
        for box, prices in found:
            self.assertIsNone(cheapest(box, prices))
        self.assertIsNone(cheapest((2, (), ()), ()))

    def test_boxes_driven_by_their_gears(self):
        self.assertEqual(cheapest(SAMPLES["driven by its gears"], (0, 0, 0)), ())
        self.assertEqual(cheapest(SAMPLES["driven by its gears, no device"], ()), ())

    def test_wrong_prices(self):
        for box in BOXES:
            for wrong in wrong_rows(len(box[2]), 0, 1000):
                self.fails(InvalidPrices, cheapest, box, wrong)

    def test_wrong_boxes_come_first(self):
        for wrong in WRONG_BOXES:
            for prices in ((5, 3), (), None, [5, 3], (1001, 0), True):
                self.fails(InvalidBox, cheapest, wrong, prices)

    def test_same_again(self):
        self.gives_the_same_again(cheapest, [(box, prices) for box in BOXES for prices in prices_for(box)])


class ErrorsTest(BoxTest):
    """The errors of the functions of a full set and prices."""

    def test_not_full(self):
        for function in (cheaper_swap, falling_shift):
            for box, engaged in not_full_cases():
                for prices in ((1,) * len(box[2]), None, [0] * len(box[2]), (1001,) * len(box[2])):
                    self.fails(NotFull, function, box, engaged, prices)

    def test_wrong_prices(self):
        for function in (cheaper_swap, falling_shift):
            for box, engaged in full_cases():
                for wrong in wrong_rows(len(box[2]), 0, 1000):
                    self.fails(InvalidPrices, function, box, engaged, wrong)

    def test_order(self):
        for function in (cheaper_swap, falling_shift):
            self.checks_order(
                function,
                (PLANET, (0,), (5, 3)),
                (InvalidBox, 0, WRONG_BOXES),
                (InvalidEngaged, 1, wrong_engaged(PLANET)),
                (NotFull, 1, [(), (0, 1)]),
                (InvalidPrices, 2, wrong_rows(2, 0, 1000)),
            )
            for prices in ((5, 3), (0,) * 8, None, [5, 3]):
                self.checks_box_and_engaged(function, prices)


class CheaperSwapTest(BoxTest):
    def test_every_full_set(self):
        found = [0, 0]
        for box, engaged, prices in calls():
            other = cheaper_swap(box, engaged, prices)
            lower = [one for one in full_sets_of(box) if price(one, prices) < price(engaged, prices)]
            if other is None:
                # No swap leads to a lower price exactly if there is no lower one at all.
                self.assertEqual(lower, [], (box, engaged, prices))
            else:
                self.assertIn(other, [one for one in lower if is_swap(engaged, one)])
                self.assertIn(other, swaps(box, engaged))
                self.is_integer_tuple(other, len(engaged))
            found[other is None] += 1
        self.assertGreater(min(found), 200)

    def test_by_hand(self):
        self.assertIsNone(cheaper_swap(PLANET, (1,), (5, 3)))
        self.assertIsNone(cheaper_swap(PLANET, (0,), (5, 5)))
        self.assertEqual(cheaper_swap(PLANET, (1,), (0, 1)), (0,))
        self.assertEqual(cheaper_swap(WHEEL, (0, 1, 2, 3), (0, 0, 9, 0, 0, 0, 8, 0)), (0, 1, 3, 6))
        self.assertIsNone(cheaper_swap(CHAIN, tuple(range(7)), (1000,) * 8))

    def test_boxes_driven_by_their_gears(self):
        self.assertIsNone(cheaper_swap(SAMPLES["driven by its gears"], (), (1, 2, 3)))

    def test_swaps_lead_to_the_least_price(self):
        for box, engaged, prices in calls()[::7]:
            steps = 0
            while (following := cheaper_swap(box, engaged, prices)) is not None:
                engaged = following
                steps += 1
                self.assertLess(steps, 100)
            self.assertEqual(price(engaged, prices), price(cheapest(box, prices), prices))

    def test_same_again(self):
        self.gives_the_same_again(cheaper_swap, calls())


class FallingShiftTest(BoxTest):
    def test_every_full_set(self):
        lengths = set()
        for box, engaged, prices in calls():
            found = falling_shift(box, engaged, prices)
            self.assertIs(type(found), list)
            self.assertEqual((found[0], found[-1]), (engaged, cheapest_by_count(box, prices)))
            self.assertEqual(found[-1], cheapest(box, prices))
            self.assertEqual(len(found) - 1, len(set(engaged) - set(found[-1])), (box, engaged, prices))
            for one in found:
                self.is_integer_tuple(one, len(engaged))
                self.assertIn(one, full_sets_of(box))
            for before, after in zip(found, found[1:]):
                self.assertTrue(is_swap(before, after))
                self.assertLessEqual(price(after, prices), price(before, prices), (box, engaged, prices))
            lengths.add(len(found))
        self.assertGreaterEqual(lengths, {1, 2, 3, 4, 5})

    def test_by_hand(self):
        self.assertEqual(falling_shift(PLANET, (1,), (5, 5)), [(1,), (0,)])
        self.assertEqual(falling_shift(PLANET, (1,), (5, 3)), [(1,)])
        self.assertEqual(falling_shift(CHAIN, tuple(range(7)), (0, 0, 1, 0, 0, 0, 0, 0))[-1], (0, 1, 3, 4, 5, 6, 7))

    def test_a_dear_detour_is_not_taken(self):
        # Both devices of the cheapest set can take the place of device 2, but device 0 is dearer than it.
        box = (3, (), (("clutch", 0, 1), ("clutch", 0, 2), ("clutch", 0, 2), ("clutch", 1, 2)))
        self.assertEqual(falling_shift(box, (2, 3), (5, 1, 2, 6)), [(2, 3), (1, 3), (0, 1)])
        self.assertEqual(falling_shift(box, (2, 3), (5, 1, 1, 6)), [(2, 3), (1, 3), (0, 1)])

    def test_from_the_cheapest_set_to_itself(self):
        for box in BOXES:
            for prices in prices_for(box):
                goal = cheapest(box, prices)
                if goal is not None:
                    self.assertEqual(falling_shift(box, goal, prices), [goal])

    def test_all_prices_equal(self):
        for box in BOXES:
            for engaged in full_sets_of(box):
                for equal in (0, 500, 1000):
                    found = falling_shift(box, engaged, (equal,) * len(box[2]))
                    self.assertEqual(found[-1], full_sets_of(box)[0])
                    self.assertEqual(len(found) - 1, len(set(engaged) - set(found[-1])))

    def test_new_lists(self):
        for call in calls()[::5]:
            self.gives_new_lists(falling_shift, *call)
        self.gives_the_same_again(falling_shift, calls())


if __name__ == "__main__":
    unittest.main()
