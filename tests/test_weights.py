"""Point 8, and what point 3 says of weights."""

import unittest

from planetbox.errors import InvalidShaft, InvalidWeights, NotDriven, NotHeld
from planetbox.kinds import kind
from planetbox.weights import held_weights, shaft_weights, weighted_sum
from tests.support import CHAIN, ODD_VALUES, PLANET, SAMPLES, BoxTest
from tests.support import cases, numbers, part_count, rows_of, sum_of, unit, wrong_shafts


def made_weights(box, engaged, stream, most):
    """Make up weights for an engaged set, from -most to most."""
    gears = len(box[1])
    active = [part < gears or part - gears in engaged for part in range(part_count(box))]
    return tuple((next(stream) * most) % (2 * most + 1) - most if one else 0 for one in active)


class WeightedSumTest(BoxTest):
    def test_example_by_hand(self):
        self.assertEqual(weighted_sum(PLANET, (0, 1), (2, 3, 5)), (65, 143, -205))
        self.assertEqual(weighted_sum(PLANET, (0,), (-1, 7, 0)), (-30, -63, 100))
        self.assertEqual(weighted_sum(PLANET, (), (3, 0, 0)), (90, 210, -300))

    def test_each_part_alone(self):
        for box in SAMPLES.values():
            everything = tuple(range(len(box[2])))
            for part, row in enumerate(rows_of(box, everything)):
                weights = tuple(int(other == part) for other in range(part_count(box)))
                self.assertEqual(weighted_sum(box, everything, weights), row)

    def test_every_set_of_every_sample(self):
        stream = numbers(7)
        for box, engaged in cases():
            for most in (3, 10**6, 10**40):
                weights = made_weights(box, engaged, stream, most)
                found = weighted_sum(box, engaged, weights)
                self.is_integer_tuple(found, box[0])
                self.assertEqual(found, sum_of(box, weights))

    def test_great_weights(self):
        great = 10**300
        self.assertEqual(
            weighted_sum(PLANET, (0, 1), (great, 1 - great, -great)), (29 * great, 69 * great + 1, -99 * great)
        )

    def test_zeros_and_boxes_without_parts(self):
        for box, engaged in cases():
            self.assertEqual(weighted_sum(box, engaged, (0,) * part_count(box)), (0,) * box[0])
        self.assertEqual(weighted_sum((2, (), ()), (), ()), (0, 0))

    def test_weight_of_a_released_device(self):
        for box, engaged in cases():
            gears = len(box[1])
            for device in range(len(box[2])):
                if device not in engaged:
                    for wrong in (1, -1, 10**30, False, None, "0", (), [0]):
                        weights = [0] * part_count(box)
                        weights[gears + device] = wrong
                        self.fails(InvalidWeights, weighted_sum, box, engaged, tuple(weights))

    def test_wrong_entry_of_an_active_part(self):
        for part in range(3):
            for wrong in (True, False, None, "1", (), (1,), [1]):
                weights = [1, 1, 1]
                weights[part] = wrong
                self.fails(InvalidWeights, weighted_sum, PLANET, (0, 1), tuple(weights))

    def test_other_values(self):
        for box, engaged in (*cases("held"), *cases("driven")):
            zeros = (0,) * part_count(box)
            wrongs = [value for value in ODD_VALUES if value != zeros]
            wrongs += [list(zeros), (*zeros, 0), "0" * len(zeros), 0]
            wrongs += [zeros[1:]] if zeros else []
            for wrong in wrongs:
                self.fails(InvalidWeights, weighted_sum, box, engaged, wrong)

    def test_wrong_lengths(self):
        for many in range(8):
            if many != 3:
                self.fails(InvalidWeights, weighted_sum, PLANET, (0, 1), (1,) * many)

    def test_errors(self):
        for weights in ((1, 0, 0), None, [0, 0, 0], ()):
            self.checks_box_and_engaged(weighted_sum, weights)


class HeldWeightsTest(BoxTest):
    def test_every_held_set(self):
        for box, engaged in cases("held"):
            weights = held_weights(box, engaged)
            self.are_weights_of(box, engaged, weights)
            total = sum_of(box, weights)
            self.assertNotEqual(total[0], 0)
            self.assertEqual(total[1:], (0,) * (box[0] - 1))
            self.assertEqual(weighted_sum(box, engaged, weights), total)

    def test_held_by_the_gears_alone(self):
        box = (2, (("mesh", 0, 20, 1, 40), ("inner", 0, 20, 1, 40)), (("clutch", 0, 1),))
        first, second, third = held_weights(box, ())
        self.assertEqual((first, third), (second, 0))
        self.assertNotEqual(first, 0)

    def test_loose_and_driven_sets(self):
        for box, engaged in cases("loose", "driven"):
            self.fails(NotHeld, held_weights, box, engaged)

    def test_errors(self):
        self.checks_box_and_engaged(held_weights)

    def test_same_again(self):
        self.gives_the_same_again(held_weights, cases("held"))


class ShaftWeightsTest(BoxTest):
    def calls(self):
        return [(box, engaged, shaft) for box, engaged in cases("driven") for shaft in range(1, box[0])]

    def test_every_driven_set(self):
        for box, engaged, shaft in self.calls():
            weights = shaft_weights(box, engaged, shaft)
            self.are_weights_of(box, engaged, weights)
            total = sum_of(box, weights)
            self.assertGreater(total[shaft], 0)
            for other in range(1, box[0]):
                if other != shaft:
                    self.assertEqual(total[other], 0)
            self.assertEqual(weighted_sum(box, engaged, weights), total)

    def test_held_and_loose_sets(self):
        for box, engaged in cases("held", "loose"):
            for shaft in (1, box[0] - 1, 0, box[0], True, None, [1]):
                self.fails(NotDriven, shaft_weights, box, engaged, shaft)

    def test_wrong_shafts(self):
        for box, engaged in cases("driven"):
            for wrong in wrong_shafts(box):
                self.fails_with(InvalidShaft, "shaft", wrong, shaft_weights, box, engaged, wrong)

    def test_errors(self):
        for shaft in (1, 0, None, True, [1]):
            self.checks_box_and_engaged(shaft_weights, shaft)

    def test_same_again(self):
        self.gives_the_same_again(shaft_weights, self.calls())


class MainPromiseTest(BoxTest):
    def test_each_set_has_what_shows_its_kind(self):
        shows = {"held": (held_weights, ()), "driven": (shaft_weights, (1,))}
        for box, engaged in cases():
            for word, (function, others) in shows.items():
                if kind(box, engaged) == word:
                    self.assertNotEqual(sum_of(box, function(box, engaged, *others)), unit(box, -1))
                else:
                    self.fails({"held": NotHeld, "driven": NotDriven}[word], function, box, engaged, *others)

    def test_weights_of_eight_shafts(self):
        self.assertEqual(kind(CHAIN, tuple(range(8))), "held")
        weights = held_weights(CHAIN, tuple(range(8)))
        self.assertEqual(len(set(weights)), 1)
        self.assertNotEqual(weights[0], 0)


if __name__ == "__main__":
    unittest.main()
