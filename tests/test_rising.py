"""Point 26: how the least work rises and falls with the burden of one shaft."""

import unittest
from fractions import Fraction
from math import lcm

from planetbox.courses import is_course, work
from planetbox.errors import InvalidShaft
from planetbox.rising import pieces, work_at
from planetbox.states import least_work, state_of
from planetbox.wrongs import InvalidFraction, NotCarried
from tests.load_support import BENT, FORWARDS, ONE_WAY, OPPOSED, WRONG_FRACTIONS, LoadTest, cases_of, corners_of
from tests.load_support import drifts_of, least_in, load_cases, load_of, of_tuples, shafts_of, spread, state_in, work_of
from tests.rig_support import RIG
from tests.support import PLANET, wrong_shafts

TOO_GREAT = ((101, 1), (-101, 1), (201, 2), (-201, 2), (10**30 * 100 + 1, 10**30), (-(10**40), 1))
BARE = (3, (), ())


def put(burdens, shaft, burden):
    """The burdens with another one, also a fraction, in the place of that of the shaft."""
    return burdens[: shaft - 1] + (burden,) + burdens[shaft:]


def pair(number):
    return number.numerator, number.denominator


def stretch_in(rig, engaged, burdens, shaft):
    """The first and the last number of the stretch, by the own search, or None."""
    if not corners_of(rig, engaged):
        return None
    first, last = Fraction(-100), Fraction(100)
    for drift in drifts_of(rig, engaged):
        rest = load_of(put(burdens, shaft, 0), drift)
        if drift[shaft] > 0:
            first = max(first, Fraction(-rest, drift[shaft]))
        elif drift[shaft] < 0:
            last = min(last, Fraction(-rest, drift[shaft]))
        elif rest < 0:
            return None
    return (first, last) if first <= last else None


def rising_cases():
    """Rigs, engaged sets and burdens, each with a shaft; of the bending rigs with several."""
    found = [(*case, 1 + at % (case[0][0][0] - 1)) for at, case in enumerate(load_cases())]
    for rig, burdens, shaft in BENT:
        found += [(rig, (), burdens, shaft), (rig, (), put(burdens, shaft, 17), shaft)]
        found += [(rig, (), burdens, other) for other in shafts_of(rig)]
        found += [(rig, (0,), burdens, other) for other in shafts_of(rig) if rig[0][2]]
    return found


class RisingTest(LoadTest):
    def shows_pieces(self, rig, engaged, burdens, shaft):
        """Check the pieces, by the tests' own search, and return them."""
        found = pieces(rig, engaged, burdens, shaft)
        self.assertIs(type(found), list)
        expected = stretch_in(rig, engaged, burdens, shaft)
        if expected is None:
            self.assertEqual(found, [], (rig, engaged, burdens, shaft))
            return found
        self.assertTrue(of_tuples(tuple(found)))
        ends = [(self.is_fraction(first), self.is_fraction(last)) for first, last, _ in found]
        self.assertEqual((ends[0][0], ends[-1][1]), expected, (rig, engaged, burdens, shaft))
        if len(found) > 1 or expected[0] != expected[1]:
            self.assertTrue(all(first < last for first, last in ends))
        self.assertEqual([last for _, last in ends[:-1]], [first for first, _ in ends[1:]])
        courses = [course for _, _, course in found]
        speeds = [Fraction(course[shaft], course[0]) for course in courses]
        self.assertEqual(speeds, sorted(set(speeds), reverse=True))
        for (first, last), course in zip(ends, courses):
            self.is_a_course(rig, engaged, course)
            self.is_least_between(rig, engaged, burdens, shaft, first, last, course)
        return found

    def is_least_between(self, rig, engaged, burdens, shaft, first, last, course):
        """Check that this is a least course at both ends and between, and that work_at says so."""
        for t in {first, last, (first + last) / 2, (7 * first + last) / 8}:
            bent = put(burdens, shaft, t)
            self.assertEqual(state_in(rig, engaged, bent), "carried")
            self.assertEqual(work_of(bent, course), least_in(rig, engaged, bent))
            self.assertEqual(self.is_fraction(work_at(rig, engaged, burdens, shaft, pair(t))), work_of(bent, course))

    def bends_of(self, *case):
        """All fractions at which a piece begins or ends."""
        found = pieces(*case)
        return [first for first, _, _ in found] + [last for _, last, _ in found[-1:]]


class PiecesTest(RisingTest):
    def test_every_case(self):
        sizes = []
        for case in rising_cases():
            sizes.append(len(self.shows_pieces(*case)))
        for many, least in ((0, 300), (1, 300), (2, 50), (3, 1), (4, 2), (5, 2)):
            self.assertGreaterEqual(sizes.count(many), least, many)

    def test_each_kind_of_stretch(self):
        found = set()
        for case in rising_cases():
            ends = stretch_in(*case)
            if ends is not None:
                first, last = ends
                found.add((first == -100, last == 100, first == last))
        both = (True, True, False), (False, False, False), (False, False, True)
        self.assertGreaterEqual(found, {*both, (True, False, False), (False, True, False)})

    def test_by_hand(self):
        rest = (3, (("mesh", 0, 20, 1, 20),), ())
        for rig, engaged, burdens, shaft, expected in (
            (RIG, (), (0, 1), 1, [((-100, 1), (-7, 10), (1, 1, 1)), ((-7, 10), (100, 1), (10, 0, 3))]),
            (RIG, (), (7, 50), 2, [((-100, 1), (-10, 1), (1, 1, 1)), ((-10, 1), (100, 1), (10, 0, 3))]),
            (RIG, (0,), (0, 1), 1, [((-100, 1), (100, 1), (10, 0, 3))]),
            (RIG, (1,), (0, 1), 2, [((-100, 1), (100, 1), (1, 1, 1))]),
            (RIG, (0, 1), (0, 1), 1, []),
            (FORWARDS, (), (0, 1), 1, []),
            (ONE_WAY, (), (0, 1), 1, [((-7, 10), (100, 1), (10, 0, 3))]),
            (ONE_WAY, (), (50, 1), 2, [((-500, 7), (100, 1), (10, 0, 3))]),
            (ONE_WAY, (), (70, 1), 2, [((-100, 1), (100, 1), (10, 0, 3))]),
            (ONE_WAY, (), (71, 1), 2, [((-100, 1), (100, 1), (10, 0, 3))]),
            (ONE_WAY, (), (-70, 1), 2, [((100, 1), (100, 1), (10, 0, 3))]),
            (ONE_WAY, (), (-71, 1), 2, []),
            ((BARE, (("over", 0, 1),)), (), (0, 0), 1, [((-100, 1), (0, 1), (1, 1, 0))]),
            ((BARE, (("over", 0, 1),)), (), (5, 1), 1, []),
            ((BARE, (("over", 1, 0),)), (), (5, 0), 1, [((0, 1), (100, 1), (1, 1, 0))]),
            ((BARE, (("over", 1, 0),)), (), (5, 0), 2, [((0, 1), (0, 1), (1, 1, 0))]),
            ((BARE, (("over", 1, 0),)), (), (-5, 0), 2, []),
            ((rest, (("over", 1, 2), ("back", 2))), (), (3, 4), 2, []),
            (
                (rest, (("over", 2, 1), ("over", 0, 2))),
                (),
                (3, 4),
                2,
                [((-100, 1), (0, 1), (1, -1, 1)), ((0, 1), (100, 1), (1, -1, -1))],
            ),
        ):
            found = self.shows_pieces(rig, engaged, burdens, shaft)
            self.assertEqual([one[:2] for one in found], [one[:2] for one in expected])
            for (_, _, course), (_, _, own) in zip(found, expected):
                self.assertEqual(Fraction(course[shaft], course[0]), Fraction(own[shaft], own[0]))

    def test_single_fractions(self):
        for burdens, shaft, at in (
            ((99, 1), 1, (-7, 10)),
            ((0, 99), 2, (0, 1)),
            ((1, 5), 2, (-10, 7)),
            ((-70, 5), 2, (100, 1)),
            ((70, 5), 2, (-100, 1)),
            ((-69, 5), 2, (690, 7)),
            ((99, -100), 1, (70, 1)),
            ((99, 13), 1, (-91, 10)),
        ):
            found = self.shows_pieces((PLANET, ()), (), burdens, shaft)
            self.assertEqual([one[:2] for one in found], [(at, at)])
            self.assertIs(is_course((PLANET, ()), (), found[0][2]), True)
            self.assertEqual(pieces((PLANET, ()), (0,), burdens, shaft)[0][:2], ((-100, 1), (100, 1)))
        for burdens in ((71, 0), (-71, 0), (100, 0), (-100, 0)):
            self.assertEqual(pieces((PLANET, ()), (), burdens, 2), [])

    def test_bends_of_the_samples(self):
        found = [[one[:2] for one in pieces(rig, (), burdens, shaft)] for rig, burdens, shaft in BENT]
        self.assertEqual(found[0], [
            ((-100, 1), (-19, 1)), ((-19, 1), (0, 1)), ((0, 1), (285, 49)), ((285, 49), (100, 1))
        ])
        self.assertEqual(found[1], [
            ((-100, 1), (-144, 25)), ((-144, 25), (-4, 1)), ((-4, 1), (0, 1)), ((0, 1), (26, 3)), ((26, 3), (100, 1))
        ])
        self.assertEqual([one[1] for one in found[2]], [(-176, 5), (-2188, 135), (-376, 27), (496, 5), (100, 1)])

    def test_the_burden_of_the_shaft_does_not_matter(self):
        for rig, engaged, burdens, shaft in spread(rising_cases(), 200):
            own = pieces(rig, engaged, burdens, shaft)
            for burden in (-100, -1, 0, 1, 73, 100):
                self.assertEqual(pieces(rig, engaged, put(burdens, shaft, burden), shaft), own)

    def test_against_least_work_at_whole_numbers(self):
        for rig, engaged, burdens, shaft in spread(rising_cases(), 200):
            found = pieces(rig, engaged, burdens, shaft)
            for t in (-100, -99, -37, -2, -1, 0, 1, 2, 50, 99, 100):
                bent = put(burdens, shaft, t)
                own = [course for first, last, course in found if Fraction(*first) <= t <= Fraction(*last)]
                self.assertEqual(state_of(rig, engaged, bent) == "carried", bool(own))
                for course in own:
                    self.assertEqual(work(rig, engaged, bent, course), least_work(rig, engaged, bent))

    def test_fractions_as_multiples_of_burdens(self):
        many = 0
        for rig, engaged, burdens, shaft in rising_cases():
            for first, last, course in pieces(rig, engaged, burdens, shaft):
                for t in (Fraction(*first), Fraction(*last), Fraction(1, 2), Fraction(-1, 3)):
                    bent = tuple(t.denominator * burden for burden in put(burdens, shaft, t))
                    bent = tuple(int(burden) for burden in bent)
                    if t.denominator > 1 and max(map(abs, bent)) <= 100 and Fraction(*first) <= t <= Fraction(*last):
                        many += 1
                        own = self.is_fraction(least_work(rig, engaged, bent))
                        self.assertEqual(own, t.denominator * work_of(put(burdens, shaft, t), course))
                        self.assertEqual(self.is_fraction(work(rig, engaged, bent, course)), own)
        self.assertGreater(many, 100)

    def test_new_lists(self):
        for case in ((RIG, (), (0, 1), 1), (RIG, (0, 1), (0, 1), 1), (BENT[1][0], (), *BENT[1][1:])):
            self.gives_new_lists(pieces, *case) if pieces(*case) else self.assertIsNot(pieces(*case), pieces(*case))

    def test_errors(self):
        self.checks_loaded(pieces, 1, steps=((InvalidShaft, 3, wrong_shafts(PLANET)),))
        self.checks_shaft(pieces)
        for rig, engaged, burdens in cases_of("barred"):
            for shaft in shafts_of(rig):
                self.assertEqual(pieces(rig, engaged, burdens, shaft), [])

    def test_same_again(self):
        self.gives_the_same_again(pieces, rising_cases())


class WorkAtTest(RisingTest):
    def test_whole_numbers(self):
        for rig, engaged, burdens, shaft in spread(rising_cases(), 200):
            for t in (-100, -55, -3, -1, 0, 1, 2, 64, 100):
                bent = put(burdens, shaft, t)
                if state_in(rig, engaged, bent) == "carried":
                    self.assertEqual(work_at(rig, engaged, burdens, shaft, (t, 1)), least_work(rig, engaged, bent))
                else:
                    self.fails(NotCarried, work_at, rig, engaged, burdens, shaft, (t, 1))

    def test_bends_from_both_pieces(self):
        many = 0
        for rig, engaged, burdens, shaft in rising_cases():
            found = pieces(rig, engaged, burdens, shaft)
            for (_, last, before), (_, _, behind) in zip(found, found[1:]):
                many += 1
                own = self.is_fraction(work_at(rig, engaged, burdens, shaft, last))
                bent = put(burdens, shaft, Fraction(*last))
                self.assertEqual(own, work_of(bent, before))
                self.assertEqual(own, work_of(bent, behind))
        self.assertGreater(many, 60)

    def test_great_denominators(self):
        for rig, engaged, burdens, shaft in spread(rising_cases(), 120):
            great = Fraction(1, 10**40), Fraction(-(10**41) - 1, 10**40), Fraction(10**900 - 1, 10**900)
            for t in (*great, Fraction(-1, 3)):
                bent = put(burdens, shaft, t)
                if state_in(rig, engaged, bent) == "carried":
                    own = self.is_fraction(work_at(rig, engaged, burdens, shaft, pair(t)))
                    self.assertEqual(own, least_in(rig, engaged, bent))
                else:
                    self.fails(NotCarried, work_at, rig, engaged, burdens, shaft, pair(t))

    def test_by_hand(self):
        for rig, engaged, burdens, shaft, t, expected in (
            (RIG, (), (0, 1), 1, (-1, 1), (0, 1)),
            (RIG, (), (0, 1), 1, (-7, 10), (3, 10)),
            (RIG, (), (0, 1), 1, (-71, 100), (29, 100)),
            (RIG, (), (0, 1), 1, (-69, 100), (3, 10)),
            (RIG, (), (0, 1), 1, (-100, 1), (-99, 1)),
            (RIG, (), (99, 1), 1, (100, 1), (3, 10)),
            (RIG, (0,), (5, 1), 2, (1, 3), (1, 10)),
            (RIG, (1,), (5, 1), 2, (-1, 3), (14, 3)),
            (ONE_WAY, (), (0, 1), 1, (-7, 10), (3, 10)),
        ):
            self.assertEqual(work_at(rig, engaged, burdens, shaft, t), expected)

    def test_outside_of_the_stretch(self):
        tiny = Fraction(1, 10**30)
        many = 0
        for case in rising_cases():
            ends = stretch_in(*case)
            if ends is None:
                for t in ((-100, 1), (0, 1), (7, 3), (100, 1)):
                    self.fails(NotCarried, work_at, *case, t)
                continue
            for end, outside in ((ends[0], ends[0] - tiny), (ends[1], ends[1] + tiny)):
                self.is_fraction(work_at(*case, pair(end)))
                if abs(end) < 100:
                    many += 1
                    self.fails(NotCarried, work_at, *case, pair(outside))
        self.assertGreater(many, 100)

    def test_rises_straight_between_bends(self):
        for case in spread(rising_cases(), 200):
            for first, last, course in pieces(*case):
                ends = [self.is_fraction(work_at(*case, t)) for t in (first, last)]
                middle = (Fraction(*first) + Fraction(*last)) / 2
                self.assertEqual(self.is_fraction(work_at(*case, pair(middle))), sum(ends) / 2)
                slope = Fraction(course[case[3]], course[0])
                self.assertEqual(ends[1] - ends[0], slope * (Fraction(*last) - Fraction(*first)))

    def test_wrong_fractions(self):
        for case in ((RIG, (), (0, 1), 1), (FORWARDS, (), (0, 1), 1), (OPPOSED, (0,), (3, 4), 2)):
            for wrong in (*WRONG_FRACTIONS, *TOO_GREAT):
                self.fails(InvalidFraction, work_at, *case, wrong)
        for right in ((100, 1), (-100, 1), (199, 2), (-199, 2), (10**32 - 1, 10**30)):
            self.is_fraction(work_at(RIG, (), (0, 1), 1, right))

    def test_errors(self):
        self.checks_loaded(
            work_at,
            1,
            (1, 2),
            steps=(
                (InvalidShaft, 3, wrong_shafts(PLANET)),
                (InvalidFraction, 4, (*WRONG_FRACTIONS, *TOO_GREAT)),
                (NotCarried, 4, ((-71, 100), (-1, 1), (-100, 1), (-(10**30) * 7 - 1, 10**31))),
            ),
        )
        # With this burden of the shaft alone the set would slip; it does not matter.
        self.assertEqual(work_at(ONE_WAY, (), (-100, 1), 1, (1, 2)), (3, 10))
        self.checks_shaft(work_at, (1, 2))
        self.checks_shaft(work_at, None)
        for rig, engaged, burdens in cases_of("barred"):
            for shaft in shafts_of(rig):
                self.fails(NotCarried, work_at, rig, engaged, burdens, shaft, (1, 2))

    def test_same_again(self):
        own = [(*case, t) for case in rising_cases() for t in self.bends_of(*case)]
        self.assertGreater(lcm(*(t[1] for *_, t in own)), 1000)
        self.gives_the_same_again(work_at, own)


if __name__ == "__main__":
    unittest.main()
