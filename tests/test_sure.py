"""Point 25: sure speeds and the cheapest sure choice."""

import unittest
from fractions import Fraction
from math import gcd

from planetbox.errors import InvalidEngaged, InvalidPrices, InvalidShaft
from planetbox.states import carry_of, least_work
from planetbox.sure import cheapest_sure, sure_speed
from planetbox.wrongs import InvalidFraction, InvalidRig
from tests.load_support import LOADED, ONE_WAY, WRONG_FRACTIONS, LoadTest, cases_of, least_in, set_cases, shafts_of
from tests.load_support import spread, state_in
from tests.rig_support import RIG, WRONG_RIGS
from tests.support import CHAIN, ODD_VALUES, PLANET, engaged_sets, numbers, unit
from tests.support import wrong_engaged, wrong_rows, wrong_shafts

BARE = (3, (), ())
BRAKED = ((2, (), (("brake", 1), ("clutch", 0, 1), ("clutch", 0, 1))), (("back", 1), ("over", 0, 1)))
SMALL = [rig for rig in LOADED if len(rig[0][2]) <= 5] + [BRAKED]


def sure_in(rig, engaged, shaft):
    """The sure speed of a shaft, a number, by the own search, or None."""
    burdens = unit(rig[0], shaft)[1:]
    return least_in(rig, engaged, burdens) if state_in(rig, engaged, burdens) == "carried" else None


def pair(number):
    return number.numerator, number.denominator


def choice_in(rig, shaft, speed, prices):
    """The least of the sure choices with the least price, by the own search, or None."""
    found = []
    for engaged in engaged_sets(rig[0]):
        own = sure_in(rig, engaged, shaft)
        if own is not None and own >= speed:
            found.append((sum(prices[device] for device in engaged), engaged))
    return min(found)[1] if found else None


class SureSpeedTest(LoadTest):
    def test_every_set(self):
        found = []
        for rig, engaged in set_cases():
            for shaft in shafts_of(rig):
                own = sure_speed(rig, engaged, shaft)
                expected = sure_in(rig, engaged, shaft)
                self.assertEqual(own, least_work(rig, engaged, unit(rig[0], shaft)[1:]))
                if expected is None:
                    self.assertIsNone(own, (rig, engaged, shaft))
                else:
                    self.assertEqual(self.is_fraction(own), expected)
                found.append(own is None)
        self.assertGreater(found.count(True), 200)
        self.assertGreater(found.count(False), 200)

    def test_no_course_for_other_burdens_is_slower(self):
        for rig, engaged, burdens in cases_of("carried"):
            course, _ = carry_of(rig, engaged, burdens)
            for shaft in shafts_of(rig):
                own = sure_speed(rig, engaged, shaft)
                if own is not None:
                    self.assertGreaterEqual(Fraction(course[shaft], course[0]), Fraction(*own))

    def test_by_hand(self):
        for rig, engaged, shaft, expected in (
            (ONE_WAY, (), 1, (0, 1)),
            (ONE_WAY, (), 2, (3, 10)),
            (ONE_WAY, (1,), 1, (1, 1)),
            (ONE_WAY, (0, 1), 1, None),
            ((PLANET, ()), (), 1, None),
            ((PLANET, ()), (0,), 2, (3, 10)),
            (RIG, (), 2, (3, 10)),
            ((BARE, (("over", 1, 0), ("over", 2, 1))), (), 2, (1, 1)),
            ((BARE, (("over", 0, 1), ("over", 2, 1))), (), 2, None),
            ((BARE, (("over", 0, 1), ("back", 1))), (), 1, (0, 1)),
            (((3, (("mesh", 0, 20, 1, 60),), ()), (("over", 2, 1),)), (), 2, (-1, 3)),
            (((3, (("mesh", 0, 20, 1, 60),), ()), (("over", 1, 2),)), (), 2, None),
            (((3, (("mesh", 0, 20, 1, 60),), ()), (("over", 1, 2),)), (), 1, (-1, 3)),
        ):
            self.assertEqual(sure_speed(rig, engaged, shaft), expected, (rig, engaged, shaft))

    def test_more_devices_are_as_sure(self):
        for rig in SMALL[::4]:
            for engaged in engaged_sets(rig[0]):
                for shaft in shafts_of(rig):
                    own = sure_speed(rig, engaged, shaft)
                    for device in range(len(rig[0][2])):
                        wider = tuple(sorted({*engaged, device}))
                        other = sure_speed(rig, wider, shaft)
                        if own is not None and other is not None:
                            self.assertGreaterEqual(Fraction(*other), Fraction(*own))

    def test_errors(self):
        self.checks_order(
            sure_speed,
            (RIG, (0,), 1),
            (InvalidRig, 0, (*WRONG_RIGS, *ODD_VALUES)),
            (InvalidEngaged, 1, wrong_engaged(PLANET)),
            (InvalidShaft, 2, wrong_shafts(PLANET)),
        )
        for rig, engaged in spread(set_cases(), 50):
            for wrong in wrong_shafts(rig[0]):
                self.fails_with(InvalidShaft, "shaft", wrong, sure_speed, rig, engaged, wrong)
            for wrong in wrong_engaged(rig[0]):
                self.fails(InvalidEngaged, sure_speed, rig, wrong, 1)

    def test_same_again(self):
        own = [(*case, shaft) for case in set_cases() for shaft in shafts_of(case[0])]
        self.gives_the_same_again(sure_speed, own)


class CheapestSureTest(LoadTest):
    def prices_for(self, rig, seed):
        many = len(rig[0][2])
        stream = numbers(seed)
        found = [(0,) * many, (1000,) * many, tuple(range(many)), tuple(range(many, 0, -1))]
        found.append(tuple((0, 1, 1, 2, 1000)[next(stream) % 5] for _ in range(many)))
        return found + [tuple(next(stream) % 1001 for _ in range(many))]

    def speeds_for(self, rig, shaft):
        """The sure speeds of all sets, a little more and a little less, and some more."""
        own = {sure_in(rig, engaged, shaft) for engaged in engaged_sets(rig[0])} - {None}
        near = [speed + add for speed in own for add in (0, Fraction(1, 10**9), Fraction(-1, 10**9))]
        return [*near, Fraction(-(10**6)), Fraction(10**6), Fraction(0), Fraction(1, 2)]

    def test_against_all_engaged_sets(self):
        found = set()
        for at, rig in enumerate(SMALL):
            shaft = 1 + at % (rig[0][0] - 1)
            for prices in self.prices_for(rig, at)[at % 2 :: 2]:
                for speed in self.speeds_for(rig, shaft):
                    own = cheapest_sure(rig, shaft, pair(speed), prices)
                    self.assertEqual(own, choice_in(rig, shaft, speed, prices), (rig, shaft, speed, prices))
                    self.assertTrue(own is None or type(own) is tuple)
                    found.add(own if own is None else len(own))
        self.assertGreaterEqual(found, {None, 0, 1, 2, 3})

    def test_all_shafts(self):
        for rig in (ONE_WAY, RIG, BRAKED, SMALL[5], SMALL[9]):
            for shaft in shafts_of(rig):
                for prices in self.prices_for(rig, 3):
                    for speed in self.speeds_for(rig, shaft):
                        own = cheapest_sure(rig, shaft, pair(speed), prices)
                        self.assertEqual(own, choice_in(rig, shaft, speed, prices))

    def test_by_hand(self):
        for rig, shaft, speed, prices, expected in (
            (ONE_WAY, 2, (1, 2), (5, 3), (1,)),
            (ONE_WAY, 2, (3, 1), (5, 3), None),
            (ONE_WAY, 2, (3, 10), (5, 3), ()),
            (ONE_WAY, 2, (31, 100), (5, 3), (1,)),
            (ONE_WAY, 2, (1, 1), (0, 1000), (1,)),
            (ONE_WAY, 2, (10**9 + 1, 10**9), (0, 0), None),
            ((PLANET, ()), 2, (3, 10), (7, 7), (0,)),
            ((PLANET, ()), 2, (3, 10), (7, 6), (1,)),
            ((PLANET, ()), 2, (4, 10**40 - 1), (7, 7), (0,)),
            ((PLANET, ()), 1, (0, 1), (7, 7), (0,)),
            ((PLANET, ()), 1, (-1, 1), (1000, 1000), (0,)),
            (((2, (), ()), ()), 1, (0, 1), (), None),
            (((2, (), ()), (("over", 1, 0),)), 1, (1, 1), (), ()),
            (BRAKED, 1, (1, 1), (0, 4, 4), (1,)),
            (BRAKED, 1, (1, 1), (0, 4, 3), (2,)),
            (BRAKED, 1, (1, 1), (0, 0, 0), (1,)),
            (BRAKED, 1, (0, 1), (0, 0, 0), ()),
            (BRAKED, 1, (0, 1), (9, 9, 9), ()),
        ):
            self.assertEqual(cheapest_sure(rig, shaft, speed, prices), expected, (rig, shaft, speed, prices))

    def test_the_least_in_ascending_order(self):
        # All prices are 0, so all sets are equally cheap: (0, 1) comes before (1,), as Python compares.
        box = (3, (), (("brake", 2), ("clutch", 0, 1), ("clutch", 1, 2)))
        for wheels in ((), (("back", 2),), (("over", 0, 1),)):
            self.assertEqual(cheapest_sure((box, wheels), 1, (1, 1), (0, 0, 0)), (0, 1))
            self.assertEqual(cheapest_sure((box, wheels), 1, (1, 1), (0, 0, 1)), (0, 1))
            self.assertEqual(cheapest_sure((box, wheels), 1, (1, 1), (1, 0, 0)), (1,))
            self.assertEqual(cheapest_sure((box, wheels), 2, (1, 1), (1, 0, 0)), (1, 2))
        twins = (2, (), (("clutch", 0, 1), ("clutch", 0, 1), ("brake", 1)))
        self.assertEqual(cheapest_sure((twins, ()), 1, (1, 1), (0, 0, 0)), (0,))
        self.assertEqual(cheapest_sure((twins, ()), 1, (1, 1), (1, 0, 0)), (1,))
        self.assertEqual(cheapest_sure((twins, ()), 1, (0, 1), (0, 0, 0)), (0,))
        self.assertEqual(cheapest_sure((twins, ()), 1, (0, 1), (1, 1, 0)), (2,))

    def test_wrong_fractions(self):
        for wrong in WRONG_FRACTIONS:
            self.fails(InvalidFraction, cheapest_sure, ONE_WAY, 2, wrong, (5, 3))
        for right in ((0, 1), (-7, 3), (10**40, 1), (1, 10**40), (101, 1), (-1000, 7)):
            self.assertEqual(gcd(*right), 1)
            self.assertIn(cheapest_sure(ONE_WAY, 2, right, (5, 3)), (None, (), (1,)))

    def test_errors(self):
        self.checks_order(
            cheapest_sure,
            (ONE_WAY, 2, (1, 2), (5, 3)),
            (InvalidRig, 0, (*WRONG_RIGS, *ODD_VALUES)),
            (InvalidShaft, 1, wrong_shafts(PLANET)),
            (InvalidFraction, 2, WRONG_FRACTIONS),
            (InvalidPrices, 3, wrong_rows(2, 0, 1000)),
        )
        for rig in SMALL[::6]:
            many = len(rig[0][2])
            for wrong in wrong_shafts(rig[0]):
                self.fails_with(InvalidShaft, "shaft", wrong, cheapest_sure, rig, wrong, (1, 2), (0,) * many)
            for wrong in wrong_rows(many, 0, 1000):
                self.fails(InvalidPrices, cheapest_sure, rig, 1, (1, 2), wrong)

    def test_same_again(self):
        own = [(rig, 1, (1, 2), (3,) * len(rig[0][2])) for rig in SMALL]
        self.gives_the_same_again(cheapest_sure, own)

    def test_more_than_five_devices(self):
        rig = ((8, (), CHAIN[2][:6]), tuple(("over", 0, 1) for _ in range(2)))
        self.assertEqual(cheapest_sure(rig, 1, (1, 1), (5,) * 6), (0,))


if __name__ == "__main__":
    unittest.main()
