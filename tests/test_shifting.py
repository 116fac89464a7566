"""Point 28: load shifts, and the sets that they reach."""

import unittest

from planetbox.errors import InvalidEngaged
from planetbox.shifting import load_shift, reached_sets
from planetbox.states import state_of
from planetbox.wrongs import InvalidBurdens, InvalidRig, NotCarried
from tests.load_support import BENT, FOUR, LOADED, ONE_WAY, OPPOSED, LoadTest, balanced, spread, state_in, wrong_burdens
from tests.rig_support import LEVER, RIG, WRONG_RIGS
from tests.support import ODD_VALUES, PLANET, SAMPLES, a_few, engaged_sets, wrong_engaged

SMALL = [rig for rig in LOADED if len(rig[0][2]) <= 5]
# With burdens each shaft needs its clutch or its brake, and cannot have both: no set is reached from another one.
APART = ((3, (), (("clutch", 0, 1), ("brake", 1), ("clutch", 0, 2), ("brake", 2))), ())


def neighbours(box, engaged):
    """All sets that are made by engaging or releasing one device."""
    return [tuple(sorted({*engaged} ^ {device})) for device in range(len(box[2]))]


def carried_in(rig, burdens):
    return [engaged for engaged in engaged_sets(rig[0]) if state_in(rig, engaged, burdens) == "carried"]


def distances(rig, burdens, first):
    """How many steps it takes from a carried set to each set that is reached, by a search of the tests' own."""
    carried = set(carried_in(rig, burdens))
    found, latest = {first: 0}, [first]
    while latest:
        engaged = latest.pop(0)
        for other in neighbours(rig[0], engaged):
            if other in carried and other not in found:
                found[other] = found[engaged] + 1
                latest.append(other)
    return found


def shift_cases():
    """Rigs with up to five devices, with burdens."""
    found = []
    for at, rig in enumerate((*SMALL, APART)):
        many = rig[0][0] - 1
        found += [(rig, burdens) for burdens in ((0,) * many, (1,) * many, (-100,) + (0,) * (many - 1))]
        for engaged in spread(engaged_sets(rig[0]), 3):
            found.append((rig, balanced(rig, engaged, at)))
    return list(dict.fromkeys(found))


def alone(first, second):
    """How many devices only one of both sets has."""
    return len({*first} ^ {*second})


class ShiftingTest(LoadTest):
    def is_shift(self, rig, burdens, first, second, many):
        """Check a load shift with so many steps."""
        steps = load_shift(rig, burdens, first, second)
        self.assertIs(type(steps), list)
        self.assertTrue(all(type(engaged) is tuple for engaged in steps))
        self.assertEqual((steps[0], steps[-1]), (first, second))
        self.assertEqual(len(steps) - 1, many, (rig, burdens, first, second))
        for engaged in steps:
            self.assertEqual(state_in(rig, engaged, burdens), "carried")
        for before, after in zip(steps, steps[1:]):
            self.assertEqual(alone(before, after), 1)


class LoadShiftTest(ShiftingTest):
    def test_against_the_own_search(self):
        found = set()
        for rig, burdens in shift_cases():
            carried = carried_in(rig, burdens)
            for first in spread(carried, 5):
                steps = distances(rig, burdens, first)
                for second in carried:
                    if second in steps:
                        self.is_shift(rig, burdens, first, second, steps[second])
                        found.add((steps[second], alone(first, second)))
                    else:
                        self.assertIsNone(load_shift(rig, burdens, first, second))
                        found.add((None, alone(first, second)))
        self.assertGreaterEqual(found, {(0, 0), (1, 1), (2, 2), (3, 3), (4, 4), (None, 2), (None, 4), (4, 2)})

    def test_by_hand(self):
        for rig, burdens, first, second, expected in (
            (ONE_WAY, (0, 1), (0,), (1,), [(0,), (), (1,)]),
            (ONE_WAY, (0, 1), (0,), (0,), [(0,)]),
            (ONE_WAY, (0, 1), (), (1,), [(), (1,)]),
            (ONE_WAY, (0, 1), (1,), (), [(1,), ()]),
            (ONE_WAY, (0, -1), (0,), (1,), None),
            ((PLANET, ()), (0, 1), (0,), (1,), None),
            ((PLANET, ()), (7, -10), (0,), (1,), [(0,), (), (1,)]),
            (RIG, (0, -1), (1,), (0,), [(1,), (), (0,)]),
        ):
            self.assertEqual(load_shift(rig, burdens, first, second), expected, (rig, burdens, first, second))

    def test_to_itself(self):
        for rig, burdens in shift_cases():
            for engaged in spread(carried_in(rig, burdens), 6):
                self.assertEqual(load_shift(rig, burdens, engaged, engaged), [engaged])

    def test_there_and_back(self):
        for rig, burdens in spread(shift_cases(), 60):
            carried = carried_in(rig, burdens)
            for first in spread(carried, 3):
                for second in spread(carried, 5):
                    there = load_shift(rig, burdens, first, second)
                    back = load_shift(rig, burdens, second, first)
                    self.assertEqual(there is None, back is None)
                    if there is not None:
                        self.assertEqual(len(there), len(back))

    def test_just_as_many_steps_as_devices_that_only_one_has(self):
        found = set()
        for rig, burdens in shift_cases():
            carried = carried_in(rig, burdens)
            for first in spread(carried, 4):
                for second in spread(carried, 7):
                    both = tuple(sorted({*first} | {*second}))
                    common = tuple(sorted({*first} & {*second}))
                    states = state_in(rig, both, burdens) != "barred", state_in(rig, common, burdens) != "slipping"
                    if any(states):
                        found.add(states)
                        self.is_shift(rig, burdens, first, second, alone(first, second))
        self.assertEqual(found, {(True, True), (True, False), (False, True)})

    def test_a_detour(self):
        # Both devices at once bar the set, and with none of them it slips: a third one has to help.
        rig = (LEVER, (("over", 2, 3), ("back", 1), ("over", 0, 3)))
        self.assertEqual([state_of(rig, one, (1, 1, 1)) for one in ((2, 3), ())], ["barred", "slipping"])
        self.is_shift(rig, (1, 1, 1), (2,), (3,), 4)
        self.is_shift(rig, (1, 1, 1), (3,), (2,), 4)

    def test_no_way(self):
        carried = carried_in(APART, (1, 1))
        self.assertEqual(carried, [(0, 2), (0, 3), (1, 2), (1, 3)])
        for first in carried:
            for second in carried:
                own = [first] if first == second else None
                self.assertEqual(load_shift(APART, (1, 1), first, second), own)

    def test_new_lists(self):
        for case in ((ONE_WAY, (0, 1), (0,), (1,)), (ONE_WAY, (0, 1), (0,), (0,))):
            self.gives_new_lists(load_shift, *case)

    def test_errors(self):
        self.checks_order(
            load_shift,
            (ONE_WAY, (0, 1), (0,), (1,)),
            (InvalidRig, 0, (*WRONG_RIGS, *ODD_VALUES)),
            (InvalidBurdens, 1, wrong_burdens(ONE_WAY)),
            (InvalidEngaged, 2, wrong_engaged(PLANET)),
            (InvalidEngaged, 3, wrong_engaged(PLANET)),
            (NotCarried, 2, ((0, 1),)),
            (NotCarried, 3, ((0, 1),)),
        )

    def test_not_carried(self):
        for rig, burdens in spread(shift_cases(), 60):
            carried = carried_in(rig, burdens)
            others = [engaged for engaged in engaged_sets(rig[0]) if engaged not in carried]
            for other in a_few(others):
                self.fails(NotCarried, load_shift, rig, burdens, other, other)
                for engaged in a_few(carried):
                    self.fails(NotCarried, load_shift, rig, burdens, other, engaged)
                    self.fails(NotCarried, load_shift, rig, burdens, engaged, other)

    def test_other_rigs(self):
        for rig, burdens in spread(shift_cases(), 40):
            for wrong in wrong_engaged(rig[0]):
                self.fails(InvalidEngaged, load_shift, rig, burdens, wrong, ())
                self.fails(InvalidEngaged, load_shift, rig, burdens, (), wrong)
                self.fails(InvalidEngaged, reached_sets, rig, burdens, wrong)
            for wrong in wrong_burdens(rig):
                self.fails(InvalidBurdens, load_shift, rig, wrong, (), ())
                self.fails(InvalidBurdens, reached_sets, rig, wrong, ())

    def test_same_again(self):
        own = []
        for rig, burdens in shift_cases():
            carried = carried_in(rig, burdens)
            own += [(rig, burdens, first, second) for first in carried[:2] for second in carried[-3:]]
        self.gives_the_same_again(load_shift, own)


class ReachedSetsTest(ShiftingTest):
    def test_against_the_own_search(self):
        found = set()
        for rig, burdens in shift_cases():
            carried = carried_in(rig, burdens)
            for first in spread(carried, 6):
                own = reached_sets(rig, burdens, first)
                self.assertIs(type(own), list)
                self.assertTrue(all(type(engaged) is tuple for engaged in own))
                self.assertEqual(own, sorted(distances(rig, burdens, first)))
                self.assertIn(first, own)
                found.add(len(own) == len(carried))
        self.assertEqual(found, {True, False})

    def test_sets_that_reach_one_another(self):
        for rig, burdens in spread(shift_cases(), 60):
            for first in spread(carried_in(rig, burdens), 3):
                own = reached_sets(rig, burdens, first)
                for second in spread(own, 4):
                    self.assertEqual(reached_sets(rig, burdens, second), own)
                    self.assertIsNotNone(load_shift(rig, burdens, first, second))

    def test_by_hand(self):
        for rig, burdens, first, expected in (
            (ONE_WAY, (0, 1), (1,), [(), (0,), (1,)]),
            (ONE_WAY, (0, -1), (1,), [(1,)]),
            ((PLANET, ()), (0, 1), (0,), [(0,)]),
            ((PLANET, ()), (7, -10), (0,), [(), (0,), (1,)]),
            (APART, (1, 1), (0, 3), [(0, 3)]),
            (APART, (0, 0), (), [(), (0,), (0, 2), (0, 3), (1,), (1, 2), (1, 3), (2,), (3,)]),
            (APART, (1, 0), (0,), [(0,), (0, 2), (0, 3)]),
            (OPPOSED, (0, 0), (0, 1), [(), (0,), (0, 1), (1,)]),
            (FOUR, (1, 0, 0), (0,), [(), (0,), (1,)]),
        ):
            self.assertEqual(reached_sets(rig, burdens, first), expected, (rig, burdens, first))

    def test_ascending(self):
        # As Python compares tuples: a set comes before those that it begins.
        rig = (LEVER, (("back", 1), ("over", 2, 3), ("over", 0, 2), ("back", 3)))
        own = reached_sets(rig, (1, 1, 1), ())
        self.assertGreater(len(own), 8)
        self.assertEqual(own, sorted(own))
        self.assertNotEqual(own, sorted(own, key=len))
        self.assertEqual(own[0], ())

    def test_more_than_five_devices(self):
        box = SAMPLES["eight shafts, eight devices"]
        rig = (box, (("over", 0, 2), ("back", 1)))
        own = reached_sets(rig, (0,) * 7, ())
        carried = [engaged for engaged in engaged_sets(box) if state_of(rig, engaged, (0,) * 7) == "carried"]
        self.assertEqual(own, sorted(carried))

    def test_bending_rigs(self):
        for rig, burdens, _ in BENT:
            for first in carried_in(rig, burdens):
                self.assertEqual(reached_sets(rig, burdens, first), sorted(distances(rig, burdens, first)))

    def test_new_lists(self):
        for case in ((ONE_WAY, (0, 1), (0,)), (ONE_WAY, (0, -1), (1,))):
            self.gives_new_lists(reached_sets, *case)

    def test_errors(self):
        self.checks_order(
            reached_sets,
            (ONE_WAY, (0, 1), (0,)),
            (InvalidRig, 0, (*WRONG_RIGS, *ODD_VALUES)),
            (InvalidBurdens, 1, wrong_burdens(ONE_WAY)),
            (InvalidEngaged, 2, wrong_engaged(PLANET)),
            (NotCarried, 2, ((0, 1),)),
        )
        for rig, burdens in spread(shift_cases(), 60):
            for engaged in engaged_sets(rig[0]):
                if state_in(rig, engaged, burdens) != "carried":
                    self.fails(NotCarried, reached_sets, rig, burdens, engaged)

    def test_same_again(self):
        own = [(*case, engaged) for case in shift_cases() for engaged in carried_in(*case)[-2:]]
        self.gives_the_same_again(reached_sets, own)


if __name__ == "__main__":
    unittest.main()
