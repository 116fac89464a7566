"""Point 24: settled shafts, settling weights and the locked box."""

import unittest
from fractions import Fraction
from math import gcd

from planetbox.boxes import is_box
from planetbox.courses import is_course, work
from planetbox.errors import InvalidEngaged, InvalidShaft
from planetbox.kinds import kind, motion
from planetbox.settled import is_settled, locked_box, only_course, settling_weights, two_courses
from planetbox.states import least_work
from planetbox.wrongs import InvalidBurdens
from tests.load_support import BENT, EIGHT, OPPOSED, SLIPS, LoadTest, are_settling_of, cases_of, corners_of
from tests.load_support import drifts_of, firm_in, is_settled_in, least_in, load_cases, of_tuples, plus, ratios_in
from tests.load_support import shafts_of, spread, state_in, work_of, wrong_burdens
from tests.rig_support import RIG, some_burdens
from tests.support import CHAIN, PLANET, engaged_sets, kind_of, speeds_of, wrong_engaged, wrong_shafts

BARE = (3, (), ())


class SettledTest(LoadTest):
    def shows_settled(self, rig, engaged, burdens):
        """Check what is returned for each shaft, by the tests' own sums, and return the settled ones."""
        firm = firm_in(rig, engaged, burdens)
        slack = [wheel for wheel in range(len(rig[1])) if wheel not in firm]
        found = []
        for shaft in shafts_of(rig):
            settling = settling_weights(rig, engaged, burdens, shaft)
            courses = two_courses(rig, engaged, burdens, shaft)
            self.assertIs(settling is None, courses is not None, (rig, engaged, burdens, shaft))
            self.assertIs(is_settled(rig, engaged, burdens, shaft), courses is None)
            if courses is None:
                self.assertTrue(are_settling_of(rig, engaged, slack, shaft, settling), (rig, engaged, shaft, settling))
                found.append(shaft)
            else:
                self.are_unlike(rig, engaged, burdens, shaft, courses)
        return found

    def are_unlike(self, rig, engaged, burdens, shaft, courses):
        """Check that these are two least courses in which the speeds of the shaft are unlike."""
        self.assertTrue(of_tuples(courses))
        self.assertEqual(len(courses), 2)
        for course in courses:
            self.is_a_course(rig, engaged, course)
            self.assertEqual(work_of(burdens, course), least_in(rig, engaged, burdens))
        first, second = courses
        self.assertNotEqual(Fraction(first[shaft], first[0]), Fraction(second[shaft], second[0]))

    def is_only(self, rig, engaged, burdens, settled):
        """Check the only course, if all shafts are settled, and return it."""
        found = only_course(rig, engaged, burdens)
        if settled != list(shafts_of(rig)):
            self.assertIsNone(found, (rig, engaged, burdens))
            return None
        self.is_integer_tuple(found, rig[0][0])
        self.is_a_course(rig, engaged, found)
        self.assertEqual(gcd(*found), 1)
        self.assertEqual(work_of(burdens, found), least_in(rig, engaged, burdens))
        return found


class IsSettledTest(SettledTest):
    def test_every_case(self):
        kinds = set()
        for rig, engaged, burdens in cases_of("carried"):
            settled = self.shows_settled(rig, engaged, burdens)
            expected = [shaft for shaft in shafts_of(rig) if is_settled_in(rig, engaged, burdens, shaft)]
            self.assertEqual(settled, expected, (rig, engaged, burdens))
            self.is_only(rig, engaged, burdens, settled)
            kinds.add((len(settled), rig[0][0]))
        self.assertGreaterEqual(kinds, {(0, 2), (1, 2), (0, 3), (1, 3), (2, 3), (1, 4), (2, 4), (3, 4), (4, 5), (7, 8)})

    def test_several_burdens(self):
        for rig, engaged, _ in spread(cases_of("carried"), 160):
            for burdens in some_burdens(rig):
                if state_in(rig, engaged, burdens) == "carried":
                    settled = self.shows_settled(rig, engaged, burdens)
                    self.is_only(rig, engaged, burdens, settled)

    def test_by_hand(self):
        over, under = ("over", 1, 0), ("over", 0, 1)
        for rig, engaged, burdens, settled, only in (
            (RIG, (), (0, 1), [1, 2], (10, 0, 3)),
            (RIG, (), (0, -1), [1, 2], (1, 1, 1)),
            (RIG, (), (0, 0), [], None),
            (RIG, (), (7, -10), [], None),
            (RIG, (0,), (0, 0), [1, 2], (10, 0, 3)),
            ((BARE, (over, under)), (), (0, 0), [1], None),
            ((BARE, (over, under)), (), (7, 0), [1], None),
            ((BARE, (over, ("back", 2))), (), (1, 0), [1], None),
            ((BARE, (over, ("back", 2))), (), (0, 1), [2], None),
            ((BARE, (over, ("back", 2))), (), (5, 1), [1, 2], (1, 1, 0)),
            ((BARE, (("back", 1), ("over", 2, 1))), (), (0, 0), [], None),
            ((BARE, (("back", 1), ("over", 2, 1))), (), (-1, 1), [], None),
            ((BARE, (("back", 1), ("over", 2, 1))), (), (0, 1), [1, 2], (1, 0, 0)),
            (OPPOSED, (), (-1, 0), [1, 2], (1, 1, 1)),
            (OPPOSED, (), (-1, 1), [], None),
            ((PLANET, ()), (), (7, -10), [], None),
            ((PLANET, ()), (1,), (7, -10), [1, 2], (1, 1, 1)),
        ):
            self.assertEqual(self.shows_settled(rig, engaged, burdens), settled, (rig, engaged, burdens))
            self.assertEqual(self.is_only(rig, engaged, burdens, settled), only)

    def test_courses_that_differ_by_a_drift_alone(self):
        rig = ((4, (("mesh", 1, 20, 2, 40),), (("brake", 3),)), (("back", 3),))
        for engaged, burdens in (((), (0, 0, 1)), ((0,), (0, 0, 1)), ((), (-1, -2, 1)), ((0,), (1, 2, -1))):
            self.assertEqual(self.shows_settled(rig, engaged, burdens), [3])
            self.assertIsNone(self.is_only(rig, engaged, burdens, [3]))

    def test_bending_rigs(self):
        found = set()
        for rig, burdens, shaft in BENT:
            for burden in range(-100, 101, 8):
                bent = burdens[: shaft - 1] + (burden,) + burdens[shaft:]
                if state_in(rig, (), bent) == "carried":
                    settled = self.shows_settled(rig, (), bent)
                    found.add(self.is_only(rig, (), bent, settled))
        self.assertGreaterEqual(len(found), 8)

    def test_where_the_work_bends_no_course_is_the_only_one(self):
        rig, burdens, shaft = BENT[0]
        for burden in (-19, 0):
            bent = burdens[: shaft - 1] + (burden,) + burdens[shaft:]
            self.assertGreater(len(ratios_in(rig, (), bent, shaft)), 1)
            self.assertIsNone(only_course(rig, (), bent))
            self.assertIs(is_settled(rig, (), bent, shaft), False)

    def test_all_least_courses_are_multiples_of_the_only_one(self):
        many = 0
        for rig, engaged, burdens in cases_of("carried"):
            only = only_course(rig, engaged, burdens)
            if only is None:
                continue
            least = least_in(rig, engaged, burdens)
            courses = corners_of(rig, engaged)
            for course in courses + [plus(course, drift) for course in courses for drift in drifts_of(rig, engaged)]:
                if work_of(burdens, course) == least:
                    many += 1
                    self.assertEqual(tuple(Fraction(entry, course[0]) * only[0] for entry in course), only)
        self.assertGreater(many, 500)


class LockedBoxTest(SettledTest):
    def is_locked(self, rig, engaged, burdens):
        """Check the locked box against its description, and return it."""
        found = locked_box(rig, engaged, burdens)
        shafts, gears, devices = rig[0]
        locks = []
        for wheel in firm_in(rig, engaged, burdens):
            word, *ends = rig[1][wheel]
            locks.append(("brake", *ends) if word == "back" else ("clutch", min(ends), max(ends)))
        self.assertEqual(repr(found), repr((shafts, gears, (*(devices[device] for device in engaged), *locks))))
        return found

    def test_every_case(self):
        sizes = set()
        for rig, engaged, burdens in cases_of("carried"):
            box = self.is_locked(rig, engaged, burdens)
            many = len(box[2])
            sizes.add(many)
            self.assertIs(is_box(box), many <= 8)
            only = only_course(rig, engaged, burdens)
            if many <= 8:
                every = tuple(range(many))
                self.assertEqual(kind_of(box, every) == "driven", only is not None)
                self.assertEqual(kind(box, every) == "driven", only is not None)
                if only is not None:
                    self.assertEqual(motion(box, every), only)
                    self.assertEqual([Fraction(speed, only[0]) for speed in only], speeds_of(box, every))
                    self.assertIs(is_course(rig, engaged, motion(box, every)), True)
                    self.assertEqual(work(rig, engaged, burdens, only), least_work(rig, engaged, burdens))
        self.assertGreaterEqual(sizes, set(range(8)))

    def test_by_hand(self):
        for rig, engaged, burdens, devices in (
            (RIG, (), (0, 1), (("brake", 1),)),
            (RIG, (), (0, -1), (("clutch", 0, 1),)),
            (RIG, (), (0, 0), ()),
            (RIG, (1,), (0, 1), (("clutch", 0, 2), ("clutch", 0, 1))),
            (RIG, (0,), (0, 1), (("brake", 1), ("brake", 1))),
            (OPPOSED, (), (-1, 0), (("clutch", 1, 2), ("clutch", 1, 2), ("clutch", 0, 1))),
            (
                (BARE, (("over", 2, 0), ("back", 1), ("over", 2, 1), ("back", 2))),
                (),
                (1, 1),
                (("clutch", 0, 2), ("brake", 1)),
            ),
        ):
            found = self.is_locked(rig, engaged, burdens)
            self.assertEqual(found, (rig[0][0], rig[0][1], devices))

    def test_more_than_eight_devices(self):
        rig = (CHAIN, (("over", 1, 0),) * 3 + (("over", 6, 7), ("over", 7, 6), ("over", 0, 5)))
        box = self.is_locked(rig, (0, 1, 2, 3, 4, 5, 6), (1,) * 7)
        self.assertEqual(len(box[2]), 13)
        self.assertEqual(box[2][:7], CHAIN[2][:7])
        self.assertEqual(box[2][7:], (("clutch", 0, 1),) * 3 + (("clutch", 6, 7),) * 2 + (("clutch", 0, 5),))
        twelve = self.is_locked((CHAIN, rig[1]), (0, 1, 2, 3, 4, 5), (1,) * 7)
        self.assertEqual(len(twelve[2]), 12)
        devices = (("clutch", 0, 1),) * 8
        most = self.is_locked(((2, (), devices), (("over", 1, 0), ("over", 0, 1)) * 3), tuple(range(8)), (3,))
        self.assertEqual(most, (2, (), (("clutch", 0, 1),) * 14))

    def test_only_course_of_eight_shafts(self):
        rig = (EIGHT, (("over", 1, 0), ("over", 2, 3), ("over", 3, 2), ("back", 4), ("back", 6), ("over", 7, 6)))
        for engaged in engaged_sets(EIGHT):
            for burdens in ((1, 0, 0, 1, 1, 1, 1), (0, 0, 0, 0, 0, 1, 1), (5, 0, 0, 7, 0, 9, 11)):
                if state_in(rig, engaged, burdens) == "carried":
                    self.is_locked(rig, engaged, burdens)
                    self.is_only(rig, engaged, burdens, self.shows_settled(rig, engaged, burdens))


class ErrorsTest(SettledTest):
    def test_order(self):
        for function in (is_settled, settling_weights, two_courses):
            self.checks_loaded(function, 1, steps=((InvalidShaft, 3, wrong_shafts(PLANET)), SLIPS))
        for function in (locked_box, only_course):
            self.checks_loaded(function, steps=(SLIPS,))

    def test_wrong_shafts(self):
        for function in (is_settled, settling_weights, two_courses):
            self.checks_shaft(function)

    def test_not_carried(self):
        for function in (is_settled, settling_weights, two_courses):
            self.checks_not_carried(function, shafts_of)
        for function in (locked_box, only_course):
            self.checks_not_carried(function)

    def test_other_rigs(self):
        for rig, engaged, burdens in spread(load_cases(), 50):
            for function, lasts in ((is_settled, (1,)), (settling_weights, (1,)), (locked_box, ()), (only_course, ())):
                for wrong in wrong_engaged(rig[0]):
                    self.fails(InvalidEngaged, function, rig, wrong, burdens, *lasts)
                for wrong in wrong_burdens(rig):
                    self.fails(InvalidBurdens, function, rig, engaged, wrong, *lasts)

    def test_slipping_though_the_shaft_is_settled(self):
        # The shaft is braked; another one slips.
        rig = ((3, (), (("brake", 1),)), ())
        self.assertEqual(state_in(rig, (0,), (0, 1)), "slipping")
        self.assertIs(is_settled(rig, (0,), (0, 0), 1), True)
        self.checks_not_carried(is_settled, lambda rig: [1])

    def test_same_again(self):
        own = cases_of("carried")
        for function in (locked_box, only_course):
            self.gives_the_same_again(function, own)
        for function in (is_settled, settling_weights, two_courses):
            self.gives_the_same_again(function, [(*case, shaft) for case in own for shaft in shafts_of(case[0])])


if __name__ == "__main__":
    unittest.main()
