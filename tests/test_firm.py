"""Point 23: firm and slack freewheels, and parted pairs."""

import unittest
from itertools import product

from planetbox.errors import InvalidEngaged
from planetbox.firm import firm_torques, firm_wheels, parted_pair, slack_course
from planetbox.states import carry_of
from planetbox.wrongs import InvalidBurdens, InvalidWheel
from tests.load_support import BENT, FORWARDS, FOUR, ONE_WAY, OPPOSED, SLIPS, LoadTest, by, cases_of, corners_of
from tests.load_support import drifts_of, firm_in, least_in, load_cases, of_tuples, part_ways, plus, pull_of, spread
from tests.load_support import state_in, work_of, wrong_burdens, wrong_wheels
from tests.rig_support import RIG, some_burdens, values_of
from tests.support import PLANET, wrong_engaged

BARE = (2, (), ())


class FirmTest(LoadTest):
    def are_carrying(self, rig, engaged, burdens, torques):
        """Check that these are carrying torques."""
        self.are_right_torques(rig, engaged, burdens, torques)
        self.assertEqual(pull_of(rig, torques), least_in(rig, engaged, burdens))

    def is_a_least_course(self, rig, engaged, burdens, course):
        self.is_a_course(rig, engaged, course)
        self.assertEqual(work_of(burdens, course), least_in(rig, engaged, burdens))

    def shows_firm(self, rig, engaged, burdens):
        """Check what is returned for each freewheel, by the tests' own sums, and return the firm ones."""
        found = []
        for wheel in range(len(rig[1])):
            torques = firm_torques(rig, engaged, burdens, wheel)
            course = slack_course(rig, engaged, burdens, wheel)
            self.assertIs(torques is None, course is not None, (rig, engaged, burdens, wheel))
            if course is None:
                self.assertTrue(of_tuples(torques))
                self.are_carrying(rig, engaged, burdens, torques)
                self.assertGreater(torques[2][wheel], 0)
                found.append(wheel)
            else:
                self.is_a_least_course(rig, engaged, burdens, course)
                self.assertGreater(values_of(rig, course)[wheel], 0)
        own = firm_wheels(rig, engaged, burdens)
        self.is_integer_tuple(own, len(found))
        self.assertEqual(own, tuple(found))
        self.is_parted(rig, engaged, burdens, own)
        return own

    def is_parted(self, rig, engaged, burdens, firm):
        """Check the parted pair against the firm freewheels."""
        pair = parted_pair(rig, engaged, burdens)
        self.assertTrue(of_tuples(pair))
        course, torques = pair
        self.is_a_least_course(rig, engaged, burdens, course)
        self.are_carrying(rig, engaged, burdens, torques)
        for wheel, entry in enumerate(values_of(rig, course)):
            self.assertIs(entry > 0, wheel not in firm)
            self.assertIs(torques[2][wheel] > 0, wheel in firm)


class FirmWheelsTest(FirmTest):
    def test_every_case(self):
        kinds = set()
        for rig, engaged, burdens in cases_of("carried"):
            firm = self.shows_firm(rig, engaged, burdens)
            self.assertEqual(firm, firm_in(rig, engaged, burdens), (rig, engaged, burdens))
            kinds.add((len(firm), len(rig[1])))
        self.assertGreaterEqual(kinds, {(0, 0), (0, 6), (6, 6), (2, 4), (1, 2), (3, 3), (1, 5)})

    def test_several_burdens(self):
        for rig, engaged, _ in spread(cases_of("carried"), 160):
            for burdens in some_burdens(rig):
                if state_in(rig, engaged, burdens) == "carried":
                    self.assertEqual(self.shows_firm(rig, engaged, burdens), firm_in(rig, engaged, burdens))

    def test_burdens_of_zeros(self):
        found = set()
        for rig, engaged, burdens in cases_of("carried"):
            zeros = (0,) * len(burdens)
            firm = self.shows_firm(rig, engaged, zeros)
            # All courses are least ones: only those are firm that have the value 0 in all courses.
            values = [values_of(rig, speeds) for speeds in corners_of(rig, engaged) + drifts_of(rig, engaged)]
            expected = [wheel for wheel in range(len(rig[1])) if not any(entries[wheel] for entries in values)]
            self.assertEqual(firm, tuple(expected))
            found.add(len(firm))
        self.assertGreaterEqual(found, {0, 1, 2})

    def test_bending_rigs(self):
        for rig, burdens, shaft in BENT:
            for burden in range(-100, 101, 8):
                bent = burdens[: shaft - 1] + (burden,) + burdens[shaft:]
                if state_in(rig, (), bent) == "carried":
                    self.assertEqual(self.shows_firm(rig, (), bent), firm_in(rig, (), bent))

    def test_by_hand(self):
        for rig, engaged, burdens, expected in (
            (RIG, (), (0, 1), (0,)),
            (RIG, (1,), (0, 1), (1,)),
            (RIG, (), (0, -1), (1,)),
            (RIG, (), (0, 0), ()),
            # The load falls with none of the courses from (10, 0, 3) to (1, 1, 1).
            (RIG, (), (7, -10), ()),
            (RIG, (), (8, -10), (0,)),
            (RIG, (), (6, -10), (1,)),
            (RIG, (0,), (0, 0), (0,)),
            ((BARE, (("over", 0, 1), ("back", 1))), (), (1,), (1,)),
            ((BARE, (("over", 0, 1), ("back", 1))), (), (-1,), (0,)),
            ((BARE, (("over", 0, 1), ("back", 1))), (), (0,), ()),
            ((BARE, (("over", 1, 0), ("back", 1), ("back", 0))), (), (1,), (0,)),
            ((BARE, (("over", 1, 0), ("over", 1, 0), ("over", 1, 0))), (), (1,), (0, 1, 2)),
            ((BARE, (("over", 1, 0), ("over", 0, 1), ("over", 1, 0))), (), (0,), (0, 1, 2)),
            ((BARE, (("over", 1, 0), ("over", 0, 1), ("back", 1))), (), (-50,), (0, 1)),
            ((BARE, (("back", 0),) * 6), (), (0,), ()),
            (OPPOSED, (), (0, 0), (0, 1)),
            (OPPOSED, (), (-1, 0), (0, 1, 2)),
            (OPPOSED, (), (-1, 1), (0, 1)),
            (OPPOSED, (0,), (5, -7), (0, 1, 2)),
            (FOUR, (), (5, -1, 0), (0, 1)),
            (FOUR, (), (5, 0, 1), (0, 3)),
            ((PLANET, ()), (0,), (3, 4), ()),
        ):
            self.assertEqual(self.shows_firm(rig, engaged, burdens), expected, (rig, engaged, burdens))

    def test_equal_freewheels_are_alike(self):
        many = 0
        for rig, engaged, burdens in cases_of("carried"):
            firm = firm_wheels(rig, engaged, burdens)
            for first, second in product(range(len(rig[1])), repeat=2):
                if rig[1][first] == rig[1][second]:
                    many += first != second
                    self.assertIs(first in firm, second in firm)
        self.assertGreater(many, 50)

    def test_freewheels_against_one_another(self):
        for rig, engaged, burdens in spread(cases_of("carried"), 200):
            if len(rig[1]) <= 4:
                wheels = rig[1] + (("over", 0, 1), ("over", 1, 0))
                other = (rig[0], wheels)
                if state_in(other, engaged, burdens) == "carried":
                    firm = self.shows_firm(other, engaged, burdens)
                    self.assertGreaterEqual(set(firm), {len(rig[1]), len(rig[1]) + 1})

    def test_multiples_of_burdens(self):
        for rig, engaged, burdens in spread(cases_of("carried"), 200):
            for factor in (2, 3, 25):
                if max(map(abs, by(factor, burdens))) <= 100:
                    many = by(factor, burdens)
                    self.assertEqual(firm_wheels(rig, engaged, many), firm_wheels(rig, engaged, burdens))

    def test_a_pair_parts_least_courses_from_others(self):
        for rig, engaged, burdens in cases_of("carried"):
            course, torques = parted_pair(rig, engaged, burdens)
            least = least_in(rig, engaged, burdens)
            for speeds in corners_of(rig, engaged):
                self.assertEqual(part_ways(rig, speeds, torques), work_of(burdens, speeds) == least)
                self.assertEqual(part_ways(rig, plus(course, speeds), torques), work_of(burdens, speeds) == least)
            self.assertTrue(part_ways(rig, course, carry_of(rig, engaged, burdens)[1]))
            self.assertTrue(part_ways(rig, carry_of(rig, engaged, burdens)[0], torques))


class ErrorsTest(FirmTest):
    def test_order(self):
        for function in (firm_wheels, parted_pair):
            self.checks_loaded(function, steps=(SLIPS,))
        for function in (firm_torques, slack_course):
            self.checks_loaded(function, 0, steps=((InvalidWheel, 3, wrong_wheels(ONE_WAY)), SLIPS))

    def test_wrong_freewheels(self):
        for function in (firm_torques, slack_course):
            self.checks_wheel(function)

    def test_not_carried(self):
        for function in (firm_wheels, parted_pair):
            self.checks_not_carried(function)
        for function in (firm_torques, slack_course):
            self.checks_not_carried(function, lambda rig: range(len(rig[1])))

    def test_other_rigs(self):
        for rig, engaged, burdens in spread(load_cases(), 60):
            for function in (firm_wheels, parted_pair):
                for wrong in wrong_engaged(rig[0]):
                    self.fails(InvalidEngaged, function, rig, wrong, burdens)
                for wrong in wrong_burdens(rig):
                    self.fails(InvalidBurdens, function, rig, engaged, wrong)

    def test_barred(self):
        self.assertEqual(state_in(FORWARDS, (), (0, 0)), "barred")
        for function in (firm_torques, slack_course):
            self.fails_with(InvalidWheel, "wheel", 1, function, FORWARDS, (), (0, 0), 1)

    def test_same_again(self):
        own = cases_of("carried")
        self.gives_the_same_again(firm_wheels, own)
        self.gives_the_same_again(parted_pair, own)
        for function in (firm_torques, slack_course):
            self.gives_the_same_again(function, [(*case, wheel) for case in own for wheel in range(len(case[0][1]))])


if __name__ == "__main__":
    unittest.main()
