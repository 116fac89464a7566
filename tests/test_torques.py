"""Point 21: torques, their sum and their pull, and bars."""

import unittest
from fractions import Fraction

from planetbox.errors import InvalidEngaged
from planetbox.states import bars_of, carry_of
from planetbox.torques import are_bars, are_right, pull, torque_sum
from planetbox.wrongs import InvalidBurdens, InvalidRig, InvalidTorques
from tests.load_support import FORWARDS, LOADED, MESHED, OPPOSED, LoadTest, added_sum, are_bars_of, are_right_of
from tests.load_support import are_torques_of, by, cases_of, corners_of, drifts_of, plus, pull_of, set_cases
from tests.load_support import spread, work_of, wrong_burdens
from tests.rig_support import RIG, WRONG_RIGS
from tests.support import NEVER, ODD_VALUES, PLANET, nodes, numbers, part_count, replaced, unit, wrong_engaged
from tests.test_checker import changed

GREAT = 10**30


def made_torques(rig, engaged, seed, limit):
    """Make up torques for an engaged set."""
    stream = numbers(seed)
    gears = len(rig[0][1])
    weights = [next(stream) % (2 * limit + 1) - limit for _ in range(part_count(rig[0]))]
    for device in range(len(rig[0][2])):
        if device not in engaged:
            weights[gears + device] = 0
    return 1 + next(stream) % limit, tuple(weights), tuple(next(stream) % limit for _ in rig[1])


def wrong_torques(rig, engaged):
    """Values that are not torques for the engaged set."""
    right = made_torques(rig, engaged, 5, 90)
    scale, weights, holds = right
    found = [*ODD_VALUES, *NEVER, list(right), right[:2], right[:1], right[1:], (*right, 0), (*right, ()), (right,), []]
    for wrong in (0, -1, -GREAT, True, False, None, "1", (), (1,), [1]):
        found.append((wrong, weights, holds))
    for wrong in (list(weights), (*weights, 0), weights[:-1], None, 0, "", (None,) * len(weights), (weights,)):
        found.append((scale, wrong, holds))
    for wrong in (list(holds), (*holds, 0), holds[:-1], None, 0, "", (None,) * max(1, len(holds)), (holds,)):
        found.append((scale, weights, wrong))
    for at in range(len(weights)):
        for wrong in (True, False, None, "0", (), (1,), [1]):
            found.append((scale, weights[:at] + (wrong,) + weights[at + 1 :], holds))
    for at in range(len(holds)):
        for wrong in (-1, -GREAT, True, False, None, "0", (), (1,), [1]):
            found.append((scale, weights, holds[:at] + (wrong,) + holds[at + 1 :]))
    for device in range(len(rig[0][2])):
        at = len(rig[0][1]) + device
        if device not in engaged:
            found += [(scale, weights[:at] + (wrong,) + weights[at + 1 :], holds) for wrong in (1, -1, GREAT)]
    found += [(scale, holds, weights), (weights, scale, holds), (scale, (weights, holds)), ((scale, weights), holds)]
    return [value for value in found if not are_torques_of(rig, engaged, value)]


def more_cases():
    """Rigs and engaged sets with torques that are made up."""
    return [(rig, engaged, made_torques(rig, engaged, at, 40)) for at, (rig, engaged) in enumerate(set_cases())]


class TorqueTest(LoadTest):
    def checks_torques(self, function):
        """Check the errors of a function of a rig, an engaged set and torques."""
        self.checks_order(
            function,
            (RIG, (0,), (100, (-1, 0, 0), (70, 0))),
            (InvalidRig, 0, (*WRONG_RIGS, *ODD_VALUES)),
            (InvalidEngaged, 1, wrong_engaged(PLANET)),
            (InvalidTorques, 2, wrong_torques(RIG, (0,))),
        )
        for rig, engaged in spread(set_cases(), 80):
            for wrong in wrong_torques(rig, engaged):
                self.fails(InvalidTorques, function, rig, engaged, wrong)

    def agrees(self, rig, engaged, burdens, value):
        """Check that are_right and are_bars say what point 21 says of any value, and return it."""
        before = repr(value)
        expected = are_right_of(rig, engaged, burdens, value), are_bars_of(rig, engaged, value)
        self.assertIs(are_right(rig, engaged, burdens, value), expected[0], (rig, engaged, burdens, value))
        self.assertIs(are_bars(rig, engaged, value), expected[1], (rig, engaged, value))
        self.assertEqual(repr(value), before)
        return expected


class TorqueSumTest(TorqueTest):
    def is_sum(self, rig, engaged, torques):
        found = torque_sum(rig, engaged, torques)
        self.is_integer_tuple(found, rig[0][0])
        self.assertEqual(found, added_sum(rig, *torques[1:]))

    def test_every_set(self):
        for at, (rig, engaged) in enumerate(set_cases()):
            for limit in (3, 200, GREAT):
                self.is_sum(rig, engaged, made_torques(rig, engaged, at, limit))

    def test_by_hand(self):
        for engaged, weights, holds, expected in (
            ((), (0, 0, 0), (0, 0), (0, 0, 0)),
            ((), (1, 0, 0), (0, 0), (30, 70, -100)),
            ((), (0, 0, 0), (5, 0), (0, 5, 0)),
            ((), (0, 0, 0), (0, 7), (7, -7, 0)),
            ((), (-2, 0, 0), (5, 7), (-53, -142, 200)),
            ((0, 1), (2, 3, 4), (5, 7), (71, 141, -204)),
            ((1,), (0, 0, -GREAT), (GREAT, 0), (-GREAT, GREAT, GREAT)),
        ):
            for scale in (1, 2, GREAT):
                self.assertEqual(torque_sum(RIG, engaged, (scale, weights, holds)), expected)

    def test_freewheels_by_hand(self):
        bare = (3, (), ())
        own = (("over", 2, 0), ("over", 0, 2), ("back", 0), ("back", 2), ("over", 1, 2), ("back", 0))
        for at, expected in enumerate(((-1, 0, 1), (1, 0, -1), (1, 0, 0), (0, 0, 1), (0, 1, -1), (1, 0, 0))):
            for hold in (1, 9, GREAT):
                holds = tuple(hold * (at == other) for other in range(6))
                self.assertEqual(torque_sum((bare, own), (), (1, (), holds)), by(hold, expected), holds)

    def test_equal_freewheels(self):
        rig = (PLANET, (("over", 1, 2),) * 6)
        self.assertEqual(torque_sum(rig, (), (4, (0, 0, 0), (1, 2, 3, 4, 5, 6))), (0, 21, -21))
        self.assertEqual(torque_sum(rig, (0,), (4, (1, 2, 0), (0, 0, 0, 0, 0, 6))), (30, 78, -106))

    def test_no_freewheels(self):
        for weights, expected in {(0, 0, 0): (0, 0, 0), (3, -4, 5): (95, 206, -305)}.items():
            self.assertEqual(torque_sum((PLANET, ()), (0, 1), (1, weights, ())), expected)
        self.assertEqual(torque_sum(((2, (), ()), ()), (), (1, (), ())), (0, 0))

    def test_integers_of_thirty_digits(self):
        great = 123456789012345678901234567890
        torques = (great, (-great, great + 1, 0), (great - 1, 7))
        self.assertEqual(torque_sum(RIG, (0,), torques), (7 - 30 * great, -68 * great - 7, 100 * great))

    def test_errors(self):
        self.checks_torques(torque_sum)

    def test_same_again(self):
        self.gives_the_same_again(torque_sum, more_cases())


class PullTest(TorqueTest):
    def test_every_set(self):
        for at, (rig, engaged) in enumerate(set_cases()):
            for limit in (2, 70, GREAT):
                torques = made_torques(rig, engaged, at, limit)
                self.assertEqual(self.is_fraction(pull(rig, engaged, torques)), pull_of(rig, torques))

    def test_by_hand(self):
        for torques, expected in {
            (100, (-1, 0, 0), (70, 0)): (3, 10),
            (7, (1, 0, 0), (0, 0)): (-30, 7),
            (6, (1, 0, 0), (0, 0)): (-5, 1),
            (60, (-1, 0, 0), (0, 0)): (1, 2),
            (60, (1, 0, 0), (0, 0)): (-1, 2),
            (1, (0, 0, 0), (0, 0)): (0, 1),
            (5, (0, 0, 0), (9, 0)): (0, 1),
            (60, (1, 0, 0), (0, 30)): (-1, 1),
            (15, (-1, 0, 0), (4, 30)): (0, 1),
            (GREAT, (-1, 0, 0), (0, 0)): (3, GREAT // 10),
            (GREAT - 1, (0, 0, 0), (0, GREAT)): (-GREAT, GREAT - 1),
        }.items():
            self.assertEqual(pull(RIG, (), torques), expected, torques)
        self.assertEqual(pull(RIG, (0, 1), (4, (0, 3, -6), (0, 0))), (3, 2))

    def test_sign_of_the_entry_for_the_input(self):
        bare = ((2, (), ()), (("back", 0), ("over", 1, 0)))
        self.assertEqual(pull(bare, (), (2, (), (3, 0))), (-3, 2))
        self.assertEqual(pull(bare, (), (2, (), (0, 3))), (3, 2))
        self.assertEqual(pull(bare, (), (2, (), (3, 3))), (0, 1))

    def test_scale(self):
        for rig, engaged, (scale, weights, holds) in spread(more_cases(), 60):
            own = self.is_fraction(pull(rig, engaged, (scale, weights, holds)))
            for factor in (2, 3, 60, GREAT):
                self.assertEqual(self.is_fraction(pull(rig, engaged, (factor * scale, weights, holds))), own / factor)
                many = (factor * scale, by(factor, weights), by(factor, holds))
                self.assertEqual(self.is_fraction(pull(rig, engaged, many)), own)

    def test_no_course_has_less_work(self):
        for rig, engaged, burdens in cases_of("carried"):
            torques = carry_of(rig, engaged, burdens)[1]
            own = self.is_fraction(pull(rig, engaged, torques))
            for course in corners_of(rig, engaged):
                self.assertGreaterEqual(work_of(burdens, course), own)
                for drift in drifts_of(rig, engaged):
                    self.assertGreaterEqual(work_of(burdens, plus(course, by(7, drift))), own)

    def test_errors(self):
        self.checks_torques(pull)

    def test_same_again(self):
        self.gives_the_same_again(pull, more_cases())


class AreRightTest(TorqueTest):
    def own(self):
        """Some rigs, engaged sets and burdens, with torques that are right for them."""
        return [(*case, carry_of(*case)[1]) for case in spread(cases_of("carried"), 70)]

    def test_right(self):
        for case in cases_of("carried"):
            self.assertEqual(self.agrees(*case, carry_of(*case)[1]), (True, False))

    def test_by_hand(self):
        right = (100, (-1, 0, 0), (70, 0))
        self.assertEqual(self.agrees(RIG, (), (0, 1), right), (True, False))
        self.assertEqual(self.agrees(RIG, (0,), (0, 1), right), (True, False))
        for burdens in ((0, 2), (1, 1), (0, -1), (0, 0), (-1, 1), (0, 100)):
            self.assertEqual(self.agrees(RIG, (), burdens, right), (False, False))
        for wrong in (
            (100, (-1, 0, 0), (71, 0)),
            (100, (-1, 0, 0), (69, 0)),
            (99, (-1, 0, 0), (70, 0)),
            (101, (-1, 0, 0), (70, 0)),
            (100, (1, 0, 0), (70, 0)),
            (100, (-1, 0, 0), (70, 1)),
            (100, (-1, 1, 0), (70, 0)),
            (100, (-1, 70, 0), (0, 0)),
            [100, (-1, 0, 0), (70, 0)],
        ):
            self.assertEqual(self.agrees(RIG, (), (0, 1), wrong), (False, False))
        self.assertEqual(self.agrees(RIG, (0,), (0, 1), (100, (-1, 70, 0), (0, 0))), (True, False))
        self.assertEqual(self.agrees(RIG, (), (-1, 0), (1, (0, 0, 0), (0, 1))), (True, False))

    def test_only_the_entry_for_the_input_is_free(self):
        brakes = (3, (), (("brake", 0), ("brake", 1), ("brake", 2)))
        for weights, expected in {
            (7, 2, 3): True,
            (-GREAT, 2, 3): True,
            (0, 2, 3): True,
            (0, 2, 4): False,
            (0, 1, 3): False,
            (7, 4, 6): False,
            (7, -2, -3): False,
        }.items():
            for wheels in ((), (("back", 1),)):
                rig = (brakes, wheels)
                self.assertIs(are_right(rig, (0, 1, 2), (2, 3), (1, weights, (0,) * len(wheels))), expected)
                twice = (2, by(2, weights), (0,) * len(wheels))
                self.assertIs(are_right(rig, (0, 1, 2), (2, 3), twice), expected)

    def test_burdens_read_off(self):
        many = 0
        for at, (rig, engaged) in enumerate(set_cases()):
            _, weights, holds = made_torques(rig, engaged, at + 3, 3)
            total = added_sum(rig, weights, holds)[1:]
            if max(map(abs, total)) <= 100:
                many += 1
                for scale in (1, 2, 3, 5, 10):
                    self.agrees(rig, engaged, total, (scale, weights, holds))
                    bent = tuple(entry // scale for entry in total)
                    self.agrees(rig, engaged, bent, (scale, weights, holds))
                self.assertIs(are_right(rig, engaged, total, (1, weights, holds)), True)
        self.assertGreater(many, 100)

    def test_great_scales(self):
        for rig, engaged, burdens, (scale, weights, holds) in self.own():
            for factor in (2, GREAT, 10**900):
                many = (factor * scale, by(factor, weights), by(factor, holds))
                self.assertIs(are_right(rig, engaged, burdens, many), True)
                self.agrees(rig, engaged, burdens, (factor * scale, weights, holds))

    def test_changes(self):
        found = set()
        for rig, engaged, burdens, torques in self.own():
            for path, node in nodes(torques):
                found |= {self.agrees(rig, engaged, burdens, replaced(torques, path, new)) for new in changed(node)}
        self.assertEqual(found, {(True, False), (False, False)})

    def test_other_burdens(self):
        for rig, engaged, burdens, torques in self.own():
            for shaft in range(1, rig[0][0]):
                for by_one in (1, -1):
                    other = plus(burdens, by(by_one, unit(rig[0], shaft)[1:]))
                    if max(map(abs, other)) <= 100:
                        self.assertEqual(self.agrees(rig, engaged, other, torques), (False, False))

    def test_any_value(self):
        for rig in LOADED[::4]:
            for value in (*ODD_VALUES, *NEVER, (1, (), ()), (1,), (1, ()), ((), (), ()), (None,) * 3):
                self.agrees(rig, (), (0,) * (rig[0][0] - 1), value)
        for rig, engaged in spread(set_cases(), 60):
            for wrong in wrong_torques(rig, engaged):
                self.assertEqual(self.agrees(rig, engaged, (0,) * (rig[0][0] - 1), wrong), (False, False))

    def test_errors(self):
        right = (100, (-1, 0, 0), (70, 0))
        self.checks_order(
            are_right,
            (RIG, (0,), (0, 1), right),
            (InvalidRig, 0, (*WRONG_RIGS, *ODD_VALUES)),
            (InvalidEngaged, 1, wrong_engaged(PLANET)),
            (InvalidBurdens, 2, wrong_burdens(RIG)),
        )
        for value in (None, True, [right], "x"):
            self.fails(InvalidRig, are_right, None, None, None, value)
            self.fails(InvalidEngaged, are_right, RIG, [0], None, value)
            self.fails(InvalidBurdens, are_right, RIG, (0,), [0, 1], value)

    def test_same_again(self):
        self.gives_the_same_again(are_right, self.own())


class AreBarsTest(TorqueTest):
    def own(self):
        """Some rigs and engaged sets with burdens, and with bars."""
        return [(*case, bars_of(*case[:2])) for case in spread(cases_of("barred"), 60)]

    def test_right(self):
        for rig, engaged, burdens in cases_of("barred"):
            bars = bars_of(rig, engaged)
            self.assertTrue(are_bars_of(rig, engaged, bars))
            self.assertIs(are_bars(rig, engaged, bars), True)
            scale, weights, holds = bars
            for factor in (2, GREAT, 10**900):
                for other in (1, scale, factor, 10**900):
                    self.assertIs(are_bars(rig, engaged, (other, by(factor, weights), by(factor, holds))), True)

    def test_held_without_a_freewheel(self):
        for weights, expected in {
            (1, -70, -100): (-70, 0, 0),
            (-1, 70, 100): (70, 0, 0),
            (0, 0, 0): (0, 0, 0),
            (1, -70, -99): (-69, 0, -1),
            (1, -71, -100): (-70, -1, 0),
        }.items():
            for scale in (1, 5):
                torques = (scale, weights, (0, 0))
                self.assertEqual(torque_sum(RIG, (0, 1), torques), expected)
                self.assertEqual(self.agrees(RIG, (0, 1), (0, 1), torques)[1], expected == (-70, 0, 0))
                self.assertIs(are_bars((PLANET, ()), (0, 1), (scale, weights, ())), expected == (-70, 0, 0))

    def test_held_by_freewheels_alone(self):
        for weights, holds, expected in (
            ((-1, 0, 0, 0), (20,), True),
            ((-1, 0, 0, 0), (19,), False),
            ((-1, 0, 0, 0), (21,), False),
            ((0, 0, 0, 0), (20,), False),
            ((1, 0, 0, 0), (20,), False),
            ((-5, 0, 0, 0), (100,), True),
            ((-1, 20, 0, 0), (0,), False),
        ):
            self.assertEqual(self.agrees(FORWARDS, (), (0, 0), (1, weights, holds))[1], expected)
        self.assertIs(are_bars(FORWARDS, (0,), (1, (-1, 20, 0, 0), (0,))), True)
        self.assertIs(are_bars((MESHED, ()), (0,), (1, (-1, 20, 0, 0), ())), True)

    def test_the_entry_for_the_input_is_negative(self):
        brake = ((2, (), (("brake", 0), ("brake", 1))), (("back", 0), ("over", 1, 0), ("back", 1)))
        for weights, holds, expected in (
            ((-1, 0), (0, 0, 0), True),
            ((-GREAT, 0), (0, 0, 0), True),
            ((0, 0), (0, 0, 0), False),
            ((1, 0), (0, 0, 0), False),
            ((0, 0), (1, 0, 0), False),
            ((-1, 0), (1, 0, 0), False),
            ((-2, 0), (1, 0, 0), True),
            ((0, 0), (0, 1, 0), False),
            ((0, -1), (0, 1, 0), True),
            ((0, -2), (0, 1, 1), True),
            ((0, -1), (0, 0, 1), False),
        ):
            self.assertIs(are_bars(brake, (0, 1), (1, weights, holds)), expected, (weights, holds))
        self.assertIs(are_bars(OPPOSED, (0,), (1, (0, 0), (4, 4, 0))), False)
        self.assertIs(are_bars(OPPOSED, (0,), (1, (-1, 0), (4, 4, 1))), False)

    def test_another_entry(self):
        bare = (4, (), ())
        for shaft in (1, 2, 3):
            for wheel in (("back", shaft), ("over", shaft, 0)):
                rig = (bare, (("over", 1, 0), wheel))
                self.assertIs(are_bars(rig, (), (1, (), (0, 1))), False)

    def test_changes(self):
        found = set()
        for rig, engaged, burdens, torques in self.own():
            for path, node in nodes(torques):
                found |= {self.agrees(rig, engaged, burdens, replaced(torques, path, new)) for new in changed(node)}
        self.assertGreaterEqual(found, {(False, True), (False, False)})

    def test_no_torques_that_are_right(self):
        for rig, engaged, burdens in spread(cases_of("carried"), 90):
            self.assertIs(are_bars(rig, engaged, carry_of(rig, engaged, burdens)[1]), False)

    def test_sums_for_the_input_alone(self):
        for rig, engaged, burdens, (scale, weights, holds) in self.own():
            total = added_sum(rig, weights, holds)
            self.assertLess(total[0], 0)
            self.assertEqual(total[1:], (0,) * (rig[0][0] - 1))
            self.assertEqual(self.is_fraction(pull(rig, engaged, (1, weights, holds))), Fraction(-total[0]))

    def test_errors(self):
        right = (1, (1, -70, -100), (0, 0))
        self.checks_order(
            are_bars,
            (RIG, (0, 1), right),
            (InvalidRig, 0, (*WRONG_RIGS, *ODD_VALUES)),
            (InvalidEngaged, 1, wrong_engaged(PLANET)),
        )
        for value in (None, True, [right], "x"):
            self.fails(InvalidRig, are_bars, None, None, value)
            self.fails(InvalidEngaged, are_bars, RIG, [0], value)

    def test_same_again(self):
        self.gives_the_same_again(are_bars, [(rig, engaged, bars) for rig, engaged, _, bars in self.own()])


if __name__ == "__main__":
    unittest.main()
