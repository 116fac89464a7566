"""Point 20: courses, drifts, loads and work."""

import unittest
from fractions import Fraction
from math import gcd

from planetbox.courses import is_course, is_drift, wheel_values, work
from planetbox.errors import InvalidEngaged
from planetbox.rigs import wheel_row
from planetbox.wrongs import InvalidBurdens, InvalidCourse, InvalidRig
from tests.rig_support import LEVER, RIG, RIGS, WRONG_RIGS, course_cases, is_course_of, is_drift_of
from tests.rig_support import rig_cases, some_burdens, some_motions, values_of
from tests.support import NEVER, ODD_VALUES, PLANET, BoxTest, dot, engaged_sets, wrong_engaged, wrong_rows

GREAT = 10**30


def plus(first, second):
    return tuple(one + other for one, other in zip(first, second))


def by(factor, speeds):
    return tuple(factor * speed for speed in speeds)


def changed(speeds):
    """Values that are like a motion, but for one entry or their kind."""
    found = [list(speeds), speeds[:-1], speeds[1:], (*speeds, 0), (*speeds, None), speeds * 2, (speeds,), [speeds]]
    for at, speed in enumerate(speeds):
        for other in (speed + 1, speed - 1, -speed, GREAT, bool(speed), None, str(speed), (speed,), [speed]):
            found.append(speeds[:at] + (other,) + speeds[at + 1 :])
        found.append(speeds[:at] + speeds[at + 1 :])
    return found


def not_courses(rig, engaged):
    """Values that are not courses of the engaged set."""
    found = list(some_motions(rig[0], engaged))
    found += [by(-1, speeds) for speeds in found[-3:]] + [list(speeds) for speeds in found[-3:]]
    found += [*ODD_VALUES, *NEVER, (1,) * (rig[0][0] + 1), [1] * rig[0][0], (True,) * rig[0][0]]
    return [value for value in found if not is_course_of(rig, engaged, value)]


class CourseTest(BoxTest):
    def agrees(self, rig, engaged, value):
        """Check that both functions say what point 20 says, and return it."""
        before = repr(value)
        expected = is_course_of(rig, engaged, value), is_drift_of(rig, engaged, value)
        self.assertIs(is_course(rig, engaged, value), expected[0], (rig, engaged, value))
        self.assertIs(is_drift(rig, engaged, value), expected[1], (rig, engaged, value))
        self.assertEqual(repr(value), before)
        return expected


class IsCourseTest(CourseTest):
    def test_every_set_of_every_sample(self):
        found = []
        for rig, engaged in rig_cases():
            found += [self.agrees(rig, engaged, speeds) for speeds in some_motions(rig[0], engaged)[:25]]
        for expected in ((True, False), (False, True), (False, False)):
            self.assertGreater(found.count(expected), 100)

    def test_by_hand(self):
        for value, expected in {
            (20, 0, 6): (True, False),
            (10, 10, 10): (True, False),
            (10, 0, 3): (True, False),
            (1, 1, 1): (True, False),
            (0, 0, 0): (False, True),
            (-10, 0, -3): (False, False),
            # The value of the first freewheel is -10, then that of the second one is -1.
            (20, -10, -1): (False, False),
            (9, 10, 9): (False, False),
            (90, 100, 97): (False, False),
            (0, -10, -7): (False, False),
            (0, 10, 7): (False, False),
        }.items():
            self.assertEqual(self.agrees(RIG, (), value), expected, value)

    def test_values_of_a_freewheel(self):
        bare = (2, (), ())
        for wheel, value in ((("over", 0, 1), (1, 2)), (("over", 1, 0), (2, 1)), (("back", 1), (1, -1))):
            self.assertEqual(values_of((bare, (wheel,)), value), (-1,))
            self.assertEqual(self.agrees((bare, (wheel,)), (), value), (False, False))
            self.assertEqual(self.agrees((bare, ()), (), value), (True, False))
        for wheel, value in ((("over", 0, 1), (1, 1)), (("over", 1, 0), (2, 2)), (("back", 1), (1, 0))):
            self.assertEqual(values_of((bare, (wheel,)), value), (0,))
            self.assertEqual(self.agrees((bare, (wheel,)), (), value), (True, False))
        for wheel, value in ((("over", 0, 1), (2, 1)), (("over", 1, 0), (2, 3)), (("back", 1), (1, 1))):
            self.assertEqual(values_of((bare, (wheel,)), value), (1,))
            self.assertEqual(self.agrees((bare, (wheel,)), (), value), (True, False))

    def test_values_in_a_drift(self):
        bare = (2, (), ())
        for wheel, value, expected in (
            (("over", 0, 1), (0, 1), False),
            (("over", 0, 1), (0, 0), True),
            (("over", 0, 1), (0, -1), True),
            (("back", 1), (0, -1), False),
            (("back", 1), (0, 1), True),
            (("back", 0), (0, -1), True),
        ):
            self.assertEqual(self.agrees((bare, (wheel,)), (), value), (False, expected))

    def test_one_freewheel_of_several(self):
        bare = (3, (), ())
        wheels = (("back", 1), ("back", 2), ("over", 1, 2), ("over", 0, 1), ("over", 0, 2), ("back", 0))
        self.assertEqual(self.agrees((bare, wheels), (), (5, 3, 2)), (True, False))
        for value in ((5, -3, -4), (5, 3, -1), (5, 2, 3), (5, 6, 2), (1, 2, 2), (1, 3, 2)):
            self.assertEqual(self.agrees((bare, wheels), (), value), (False, False))

    def test_speed_of_the_input(self):
        bare = ((3, (), ()), ())
        for speed in (-GREAT, -2, -1, 0, 1, 2, GREAT):
            self.assertEqual(self.agrees(bare, (), (speed, 5, -5)), (speed > 0, speed == 0))

    def test_the_drift_of_all_zeros(self):
        for rig, engaged in rig_cases():
            self.assertEqual(self.agrees(rig, engaged, (0,) * rig[0][0]), (False, True))

    def test_equations_of_the_engaged_devices(self):
        for engaged, expected in {(): True, (0,): True, (1,): False, (0, 1): False}.items():
            self.assertIs(is_course(RIG, engaged, (10, 0, 3)), expected)
        self.assertIs(is_drift((PLANET, ()), (1,), (0, 10, 7)), False)
        self.assertIs(is_drift((PLANET, ()), (), (0, 10, 7)), True)

    def test_changed_entries(self):
        for rig, engaged, course in course_cases()[::4]:
            for value in changed(course):
                self.agrees(rig, engaged, value)
            for value in changed((0,) * rig[0][0]):
                self.agrees(rig, engaged, value)

    def test_any_value(self):
        for rig in RIGS[:12]:
            for value in (*ODD_VALUES, *NEVER, (0,), (1,), (1, 1), [1, 1], (1, 1, 1), ((1, 1, 1),), "111"):
                for engaged in engaged_sets(rig[0])[:4]:
                    self.agrees(rig, engaged, value)

    def test_bools_and_lists(self):
        for wrong in ((True, 1, 1), (1, True, 1), (1, 1, True), (True,) * 3, [1, 1, 1], (False,) * 3, [0, 0, 0]):
            self.assertEqual(self.agrees(RIG, (), wrong), (False, False))

    def test_sums_and_multiples(self):
        by_set = {}
        for rig, engaged, course in course_cases():
            by_set.setdefault((rig, engaged), []).append(course)
        for (rig, engaged), courses in by_set.items():
            for course in courses:
                for factor in (1, 2, 7, GREAT, 10**999):
                    self.assertIs(is_course(rig, engaged, by(factor, course)), True)
                for factor in (0, -1, -GREAT):
                    self.assertIs(is_course(rig, engaged, by(factor, course)), False)
                for other in courses:
                    self.assertIs(is_course(rig, engaged, plus(course, other)), True)
                drifts = [value for value in some_motions(rig[0], engaged)[:30] if is_drift_of(rig, engaged, value)]
                for drift in drifts[:4]:
                    self.assertIs(is_course(rig, engaged, plus(course, by(GREAT, drift))), True)
                    self.assertIs(is_drift(rig, engaged, by(GREAT, drift)), True)
                    for other in drifts[-4:]:
                        self.assertIs(is_drift(rig, engaged, plus(drift, other)), True)

    def test_errors(self):
        for function in (is_course, is_drift):
            self.checks_order(
                function,
                (RIG, (0,), (10, 0, 3)),
                (InvalidRig, 0, (*WRONG_RIGS, *ODD_VALUES)),
                (InvalidEngaged, 1, wrong_engaged(PLANET)),
            )
            for wrong in WRONG_RIGS:
                for engaged in ((), None, [0]):
                    self.fails(InvalidRig, function, wrong, engaged, None)
            for rig in RIGS:
                for wrong in wrong_engaged(rig[0]):
                    self.fails(InvalidEngaged, function, rig, wrong, (0,) * rig[0][0])
                    self.fails(InvalidEngaged, function, rig, wrong, None)

    def test_same_again(self):
        for function in (is_course, is_drift, wheel_values):
            self.gives_the_same_again(function, course_cases())


class WorkTest(CourseTest):
    def is_work(self, rig, engaged, burdens, course):
        """Check the work of a course against its sum, and return it as a number."""
        found = work(rig, engaged, burdens, course)
        self.is_integer_tuple(found, 2)
        self.assertGreater(found[1], 0)
        self.assertEqual(gcd(*found), 1)
        self.assertEqual(Fraction(*found), Fraction(dot(burdens, course[1:]), course[0]))
        return Fraction(*found)

    def test_every_course(self):
        for rig, engaged, course in course_cases():
            for burdens in some_burdens(rig):
                self.is_work(rig, engaged, burdens, course)

    def test_by_hand(self):
        self.assertEqual(work(RIG, (), (0, 1), (20, 0, 6)), (3, 10))
        self.assertEqual(work(RIG, (), (100, -100), (20, 0, 6)), (-30, 1))
        self.assertEqual(work(RIG, (), (0, 0), (20, 0, 6)), (0, 1))
        self.assertEqual(work(RIG, (), (-3, 4), (10, 10, 10)), (1, 1))
        self.assertEqual(work(RIG, (), (7, 0), (10, 0, 3)), (0, 1))
        self.assertEqual(work((LEVER, ()), (), (1, -2, 3), (30, 10, 16, -5)), (-37, 30))
        self.assertEqual(work((LEVER, ()), (0, 2), (9, 4, -7), (10, 0, 3, 3)), (-9, 10))

    def test_faster_courses(self):
        for rig, engaged, course in course_cases()[::5]:
            for burdens in some_burdens(rig)[-3:]:
                found = work(rig, engaged, burdens, course)
                for factor in (2, 3, 60, GREAT):
                    self.assertEqual(work(rig, engaged, burdens, by(factor, course)), found)

    def test_great_numbers(self):
        bare = ((3, (), ()), (("over", 1, 0),))
        self.assertEqual(work(bare, (), (100, -100), (GREAT, GREAT + 1, GREAT - 1)), (1, GREAT // 200))
        self.assertEqual(work(bare, (), (1, 0), (GREAT - 1, GREAT, 0)), (GREAT, GREAT - 1))
        self.assertEqual(work(bare, (), (3, 100), (1, GREAT, -GREAT)), (-97 * GREAT, 1))
        self.assertEqual(wheel_values(bare, (), (1, GREAT, -GREAT)), (GREAT - 1,))

    def test_sums_of_burdens(self):
        for rig, engaged, course in course_cases()[::7]:
            first, second = (50,) * (rig[0][0] - 1), tuple(range(rig[0][0] - 1))
            both = self.is_work(rig, engaged, first, course) + self.is_work(rig, engaged, second, course)
            self.assertEqual(self.is_work(rig, engaged, plus(first, second), course), both)

    def test_rigs_without_freewheels(self):
        self.assertEqual(work((PLANET, ()), (), (2, 1), (10, -10, -4)), (-12, 5))
        self.assertEqual(wheel_values((PLANET, ()), (), (10, -10, -4)), ())

    def test_the_burden_of_each_shaft(self):
        for at in range(7):
            burdens = tuple(int(at == other) for other in range(7))
            self.assertEqual(work(((8, (), ()), ()), (), burdens, (1, 2, 3, 4, 5, 6, 7, 8)), (at + 2, 1))

    def test_order(self):
        self.checks_order(
            work,
            (RIG, (0,), (0, 1), (10, 0, 3)),
            (InvalidRig, 0, (*WRONG_RIGS, *ODD_VALUES)),
            (InvalidEngaged, 1, wrong_engaged(PLANET)),
            (InvalidBurdens, 2, wrong_rows(2, -100, 100)),
            (InvalidCourse, 3, not_courses(RIG, (0,))),
        )

    def test_errors_of_other_rigs(self):
        for rig, engaged, course in course_cases()[::9]:
            right = (0,) * (rig[0][0] - 1)
            for wrong in wrong_engaged(rig[0]):
                self.fails(InvalidEngaged, work, rig, wrong, right, course)
            for wrong in wrong_rows(rig[0][0] - 1, -100, 100):
                self.fails(InvalidBurdens, work, rig, engaged, wrong, course)
                self.fails(InvalidBurdens, work, rig, engaged, wrong, None)
            for wrong in not_courses(rig, engaged):
                self.fails(InvalidCourse, work, rig, engaged, right, wrong)

    def test_same_again(self):
        calls = [(rig, engaged, (1,) * (rig[0][0] - 1), course) for rig, engaged, course in course_cases()]
        self.gives_the_same_again(work, calls)


class WheelValuesTest(CourseTest):
    def test_every_course(self):
        for rig, engaged, course in course_cases():
            found = wheel_values(rig, engaged, course)
            self.is_integer_tuple(found, len(rig[1]))
            self.assertEqual(found, values_of(rig, course))
            self.assertEqual(found, tuple(dot(wheel_row(rig, wheel), course) for wheel in range(len(rig[1]))))
            self.assertGreaterEqual(min(found, default=0), 0)

    def test_by_hand(self):
        self.assertEqual(wheel_values(RIG, (), (20, 0, 6)), (0, 20))
        self.assertEqual(wheel_values(RIG, (), (10, 10, 10)), (10, 0))
        self.assertEqual(wheel_values(RIG, (1,), (1, 1, 1)), (1, 0))
        self.assertEqual(wheel_values(((2, (), ()), (("over", 1, 0), ("back", 0), ("back", 1))), (), (3, 8)), (5, 3, 8))

    def test_order(self):
        self.checks_order(
            wheel_values,
            (RIG, (0,), (10, 0, 3)),
            (InvalidRig, 0, (*WRONG_RIGS, *ODD_VALUES)),
            (InvalidEngaged, 1, wrong_engaged(PLANET)),
            (InvalidCourse, 2, not_courses(RIG, (0,))),
        )

    def test_wrong_courses(self):
        for rig, engaged in rig_cases()[::6]:
            for wrong in not_courses(rig, engaged):
                self.fails(InvalidCourse, wheel_values, rig, engaged, wrong)


if __name__ == "__main__":
    unittest.main()
