"""Point 22, and what point 3 says of it: every rig, engaged set and burdens is in exactly one of three states."""

import unittest
from itertools import product

from planetbox.courses import work
from planetbox.errors import InvalidEngaged
from planetbox.states import bars_of, carry_of, least_work, slip_of, state_of
from planetbox.torques import pull
from planetbox.wrongs import InvalidRig
from tests.load_support import BENT, EIGHT, FORWARDS, FOUR, LOADED, MESHED, ONE_WAY, OPPOSED, LoadTest
from tests.load_support import are_bars_of, by, cases_of, corners_of, drifts_of, least_in, load_cases
from tests.load_support import load_of, of_tuples, part_ways, plus, set_cases, spread, state_in, work_of
from tests.rig_support import RIG, WRONG_RIGS, is_course_of, is_drift_of, some_burdens, some_motions
from tests.support import CHAIN, ODD_VALUES, PLANET, more, wrong_engaged

STATES = ("barred", "slipping", "carried")


def all_freewheels(box):
    """All freewheels of a box."""
    pairs = [(first, second) for first, second in product(range(box[0]), repeat=2) if first != second]
    return [("back", shaft) for shaft in range(box[0])] + [("over", *pair) for pair in pairs]


class StateTest(LoadTest):
    def shows_state(self, rig, engaged, burdens):
        """Check that just what shows the state is returned, by the tests' own sums, and return the state."""
        state = state_of(rig, engaged, burdens)
        self.assertIs(type(state), str)
        bars, slip, carry = bars_of(rig, engaged), slip_of(rig, engaged, burdens), carry_of(rig, engaged, burdens)
        shown = [word for word, value in zip(STATES, (bars, slip, carry)) if value is not None]
        self.assertEqual(shown, [state], (rig, engaged, burdens))
        self.assertTrue(of_tuples([value for value in (bars, slip, carry) if value is not None][0]))
        if state == "barred":
            self.assertTrue(are_bars_of(rig, engaged, bars), (rig, engaged, bars))
        elif state == "slipping":
            self.assertEqual(len(slip), 2)
            self.assertTrue(is_course_of(rig, engaged, slip[0]), (rig, engaged, slip))
            self.assertTrue(is_drift_of(rig, engaged, slip[1]), (rig, engaged, slip))
            self.assertLess(load_of(burdens, slip[1]), 0)
        else:
            self.assertEqual(len(carry), 2)
            least = self.show_the_least_work(rig, engaged, burdens, *carry)
            self.assertEqual(self.is_fraction(least_work(rig, engaged, burdens)), least)
        if state != "carried":
            self.assertIsNone(least_work(rig, engaged, burdens))
        return state


class StatesTest(StateTest):
    def test_every_case(self):
        found = []
        for rig, engaged, burdens in load_cases():
            state = self.shows_state(rig, engaged, burdens)
            self.assertEqual(state, state_in(rig, engaged, burdens), (rig, engaged, burdens))
            found.append(state)
        for word in STATES:
            self.assertGreater(found.count(word), 200)

    def test_each_kind_of_case_is_there(self):
        cases = load_cases()
        self.assertGreaterEqual({rig[0][0] for rig, _, _ in cases}, {2, 3, 4, 5, 8})
        self.assertEqual({len(rig[1]) for rig, _, _ in cases}, set(range(7)))
        self.assertTrue(any(len(set(rig[1])) < len(rig[1]) for rig, _, _ in cases))
        self.assertTrue(any(("over", 1, 2) in rig[1] and ("over", 2, 1) in rig[1] for rig, _, _ in cases))
        for own, word in product((0, 100, -100), STATES):
            found = any(set(burdens) == {own} for _, _, burdens in cases_of(word))
            self.assertIs(found, (own, word) != (0, "slipping"), (own, word))

    def test_several_burdens(self):
        for rig, engaged in spread(set_cases(), 110):
            for burdens in some_burdens(rig):
                self.assertEqual(self.shows_state(rig, engaged, burdens), state_in(rig, engaged, burdens))

    def test_all_small_burdens(self):
        for rig in (ONE_WAY, RIG, OPPOSED, FORWARDS, (MESHED, ()), FOUR):
            for burdens in product((-1, 0, 1), repeat=rig[0][0] - 1):
                for engaged in ((), (0,)):
                    self.assertEqual(self.shows_state(rig, engaged, burdens), state_in(rig, engaged, burdens))

    def test_bending_rigs(self):
        for rig, burdens, shaft in BENT:
            for burden in range(-100, 101, 5):
                bent = burdens[: shaft - 1] + (burden,) + burdens[shaft:]
                self.assertEqual(self.shows_state(rig, (), bent), state_in(rig, (), bent))

    def test_by_hand(self):
        for rig, engaged, burdens, expected in (
            (ONE_WAY, (), (0, 1), ("carried", (3, 10))),
            (ONE_WAY, (), (1, 0), ("carried", (0, 1))),
            (ONE_WAY, (), (0, -1), ("slipping", None)),
            (ONE_WAY, (), (0, 0), ("carried", (0, 1))),
            # Its drift is (0, 10, 7): the load of these is 0, 1 and -1.
            (ONE_WAY, (), (7, -10), ("carried", (-3, 1))),
            (ONE_WAY, (), (5, -7), ("carried", (-21, 10))),
            (ONE_WAY, (), (9, -13), ("slipping", None)),
            (ONE_WAY, (0,), (0, -100), ("carried", (-30, 1))),
            (ONE_WAY, (1,), (2, 3), ("carried", (5, 1))),
            (ONE_WAY, (0, 1), (0, 1), ("barred", None)),
            ((PLANET, ()), (), (0, 1), ("slipping", None)),
            ((PLANET, ()), (), (7, -10), ("carried", (-3, 1))),
            (RIG, (), (0, -1), ("carried", (-1, 1))),
            (RIG, (), (-100, 100), ("carried", (0, 1))),
            (FORWARDS, (), (0, 0), ("barred", None)),
            ((MESHED, ()), (), (5, 0), ("carried", (-5, 1))),
            ((MESHED, ()), (), (5, 1), ("slipping", None)),
            ((MESHED, ()), (0,), (5, 0), ("barred", None)),
            ((MESHED, ()), (1,), (5, 1), ("carried", (-6, 1))),
            (((2, (), ()), (("over", 0, 1), ("back", 1))), (), (-100,), ("carried", (-100, 1))),
            (((2, (), ()), (("over", 0, 1), ("back", 1))), (), (100,), ("carried", (0, 1))),
            (((2, (), ()), (("over", 1, 0), ("back", 0))), (), (100,), ("carried", (100, 1))),
            (((2, (), ()), (("over", 1, 0), ("back", 0))), (), (-1,), ("slipping", None)),
            (((2, (), ()), ()), (), (0,), ("carried", (0, 1))),
            (((2, (), ()), ()), (), (1,), ("slipping", None)),
        ):
            self.assertEqual(self.shows_state(rig, engaged, burdens), expected[0], (rig, engaged, burdens))
            self.assertEqual(least_work(rig, engaged, burdens), expected[1], (rig, engaged, burdens))

    def test_all_freewheels_alone_and_in_pairs(self):
        for box in ((2, (), ()), (3, (), (("clutch", 1, 2),)), MESHED):
            wheels = all_freewheels(box)
            for first, second in product(wheels, repeat=2):
                rig = (box, (first, second))
                for engaged in ((), (0,))[: 1 + len(box[2])]:
                    for burdens in ((1,) * (box[0] - 1), (-1,) + (0,) * (box[0] - 2)):
                        self.assertEqual(self.shows_state(rig, engaged, burdens), state_in(rig, engaged, burdens))

    def test_eight_shafts(self):
        for rig in (
            (CHAIN, ()),
            (CHAIN, tuple(("over", k, k + 1) for k in range(6))),
            (CHAIN, tuple(("over", k + 1, k) for k in range(6))),
            (CHAIN, (("over", 0, 7), ("over", 7, 0), ("back", 3), ("back", 3), ("over", 4, 3), ("over", 3, 4))),
            (EIGHT, (("over", 0, 1), ("back", 1), ("over", 2, 3), ("back", 3), ("over", 4, 6), ("over", 6, 7))),
        ):
            for engaged in spread([(), *((k,) for k in range(len(rig[0][2]))), (0, 1, 2), (1, 3)], 9):
                for burdens in ((0,) * 7, (100,) * 7, (-100,) * 7, (1, -1, 1, -1, 1, -1, 1), (0, 0, 0, 0, 0, 0, -1)):
                    self.assertEqual(self.shows_state(rig, engaged, burdens), state_in(rig, engaged, burdens))


class LeastWorkTest(StateTest):
    def test_against_the_own_search(self):
        for case in cases_of("carried"):
            self.assertEqual(self.is_fraction(least_work(*case)), least_in(*case))

    def test_the_work_of_the_course_and_the_pull_of_the_torques(self):
        for rig, engaged, burdens in cases_of("carried"):
            course, torques = carry_of(rig, engaged, burdens)
            least = least_work(rig, engaged, burdens)
            self.assertEqual(work(rig, engaged, burdens, course), least)
            self.assertEqual(pull(rig, engaged, torques), least)

    def test_no_course_has_less(self):
        for rig, engaged, burdens in cases_of("carried"):
            least = self.is_fraction(least_work(rig, engaged, burdens))
            courses = [speeds for speeds in some_motions(rig[0], engaged) if is_course_of(rig, engaged, speeds)]
            for course in courses + corners_of(rig, engaged):
                self.assertGreaterEqual(work_of(burdens, course), least)

    def test_no_course_for_other_burdens_has_less(self):
        by_set = {}
        for rig, engaged, burdens in cases_of("carried"):
            by_set.setdefault((rig, engaged), []).append(burdens)
        for (rig, engaged), many in by_set.items():
            courses = [carry_of(rig, engaged, burdens)[0] for burdens in many]
            for burdens in many:
                least = self.is_fraction(least_work(rig, engaged, burdens))
                for course in courses:
                    self.assertGreaterEqual(work_of(burdens, course), least)

    def test_the_course_of_slips_goes_on_for_ever(self):
        for rig, engaged, burdens in cases_of("slipping"):
            course, drift = slip_of(rig, engaged, burdens)
            for factor in (1, 10, 10**30):
                further = plus(course, by(factor, drift))
                self.assertTrue(is_course_of(rig, engaged, further))
                self.assertLess(work_of(burdens, further), work_of(burdens, course))

    def test_least_course_exactly_if_all_freewheels_have_0(self):
        for rig, engaged, burdens in cases_of("carried"):
            least = least_in(rig, engaged, burdens)
            _, torques = carry_of(rig, engaged, burdens)
            for course in corners_of(rig, engaged) + [carry_of(rig, engaged, (0,) * (rig[0][0] - 1))[0]]:
                for speeds in [course] + [plus(course, drift) for drift in drifts_of(rig, engaged)]:
                    self.assertEqual(part_ways(rig, speeds, torques), work_of(burdens, speeds) == least)


class MoreTest(StateTest):
    def becomes(self, before, after, rig, engaged, burdens, least):
        """Check the state of a set with more devices or freewheels than one that had a state and a least work."""
        if before == "barred":
            self.assertEqual(after, "barred")
        elif before == "carried":
            self.assertIn(after, ("carried", "barred"))
            if after == "carried":
                self.assertGreaterEqual(self.is_fraction(least_work(rig, engaged, burdens)), least)

    def test_more_devices(self):
        found = set()
        for rig, engaged, burdens in spread(load_cases(), 700):
            before = state_of(rig, engaged, burdens)
            least = least_in(rig, engaged, burdens) if before == "carried" else None
            for device in range(len(rig[0][2])):
                if device not in engaged:
                    wider = more(engaged, device)
                    after = state_of(rig, wider, burdens)
                    self.becomes(before, after, rig, wider, burdens, least)
                    found.add((before, after))
        self.assertEqual(len(found), 6)

    def test_more_freewheels(self):
        found = set()
        for rig, engaged, burdens in spread(load_cases(), 400):
            before = state_of(rig, engaged, burdens)
            least = least_in(rig, engaged, burdens) if before == "carried" else None
            for wheel in spread(all_freewheels(rig[0]), 7) if len(rig[1]) < 6 else ():
                for wheels in ((*rig[1], wheel), (wheel, *rig[1])):
                    other = (rig[0], wheels)
                    after = state_of(other, engaged, burdens)
                    self.becomes(before, after, other, engaged, burdens, least)
                    found.add((before, after))
        self.assertEqual(len(found), 6)

    def test_a_freewheel_twice_changes_nothing(self):
        for rig, engaged, burdens in spread(load_cases(), 300):
            for wheel in rig[1][: 6 - len(rig[1])]:
                other = (rig[0], (*rig[1], wheel))
                self.assertEqual(state_of(other, engaged, burdens), state_of(rig, engaged, burdens))
                self.assertEqual(least_work(other, engaged, burdens), least_work(rig, engaged, burdens))

    def test_other_orders_change_nothing(self):
        for rig, engaged, burdens in spread(load_cases(), 400):
            other = (rig[0], rig[1][::-1])
            self.assertEqual(state_of(other, engaged, burdens), state_of(rig, engaged, burdens))
            self.assertEqual(least_work(other, engaged, burdens), least_work(rig, engaged, burdens))

    def test_multiples_of_burdens(self):
        for rig, engaged, burdens in load_cases():
            state, least = state_of(rig, engaged, burdens), least_work(rig, engaged, burdens)
            for factor in (2, 3, 10, 25):
                many = by(factor, burdens)
                if max(map(abs, many)) <= 100:
                    self.assertEqual(state_of(rig, engaged, many), state)
                    if state == "carried":
                        found = self.is_fraction(least_work(rig, engaged, many))
                        self.assertEqual(found, factor * self.is_fraction(least))
            zeros = (0,) * len(burdens)
            self.assertEqual(state_of(rig, engaged, zeros), "barred" if state == "barred" else "carried")
            self.assertEqual(least_work(rig, engaged, zeros), None if state == "barred" else (0, 1))

    def test_sums_of_burdens(self):
        by_set = {}
        for rig, engaged, burdens in cases_of("carried"):
            by_set.setdefault((rig, engaged), []).append(burdens)
        many = unlike = 0
        for (rig, engaged), own in by_set.items():
            for first, second in product(own, repeat=2):
                both = plus(first, second)
                if max(map(abs, both)) <= 100:
                    self.assertEqual(state_of(rig, engaged, both), "carried")
                    apart = [self.is_fraction(least_work(rig, engaged, burdens)) for burdens in (first, second)]
                    together = self.is_fraction(least_work(rig, engaged, both))
                    self.assertGreaterEqual(together, sum(apart))
                    many += 1
                    unlike += together > sum(apart)
        self.assertGreater(many, 500)
        self.assertGreater(unlike, 20)


class ErrorsTest(StateTest):
    def test_order(self):
        for function in (state_of, slip_of, carry_of, least_work):
            self.checks_loaded(function)
        self.checks_order(
            bars_of,
            (RIG, (0,)),
            (InvalidRig, 0, (*WRONG_RIGS, *ODD_VALUES)),
            (InvalidEngaged, 1, wrong_engaged(PLANET)),
        )

    def test_other_rigs(self):
        for rig in LOADED[::5]:
            for wrong in wrong_engaged(rig[0]):
                self.fails(InvalidEngaged, bars_of, rig, wrong)
                for function in (state_of, slip_of, carry_of, least_work):
                    self.fails(InvalidEngaged, function, rig, wrong, (0,) * (rig[0][0] - 1))

    def test_same_again(self):
        for function in (state_of, slip_of, carry_of, least_work):
            self.gives_the_same_again(function, load_cases())
        self.gives_the_same_again(bars_of, set_cases())


if __name__ == "__main__":
    unittest.main()
