"""Point 17, and what point 3 says of a workspace."""

import unittest
from fractions import Fraction
from itertools import permutations

from planetbox.errors import Full, InvalidBox, InvalidDevice, InvalidMark, InvalidNumber
from planetbox.errors import IsEngaged, IsReleased, NotDriven, WouldHold
from planetbox.full import full_sets
from planetbox.shifts import shift
from planetbox.workspace import Workspace
from tests.support import CHAIN, ODD_VALUES, PLANET, SAMPLES, WRONG_BOXES, BoxTest
from tests.support import copied, kind_of, less, more, numbers, speeds_of, wrong_numbers

KEPT = {InvalidDevice: "device", IsEngaged: "device", IsReleased: "device", Full: "limit", InvalidMark: "number"}
QUERIES = ("engaged", "kind", "angles", "marks", "can_engage")
TWINS = (2, (), (("clutch", 0, 1), ("clutch", 0, 1), ("brake", 1), ("brake", 0)))


def is_number(value, many):
    return type(value) is int and 0 <= value < many


class Model:
    """A workspace as point 17 words it. Each call returns its result, or the class and the value of its error."""

    def __init__(self, box):
        self.box = box
        self.now = ()
        self.turned = [Fraction(0)] * box[0]
        self.kept = []

    def holds(self, engaged):
        return kind_of(self.box, engaged) == "held"

    def wrong_device(self, device):
        return None if is_number(device, len(self.box[2])) else (InvalidDevice, device)

    def engage(self, device):
        if wrong := self.wrong_device(device):
            return wrong
        if device in self.now:
            return IsEngaged, device
        if self.holds(more(self.now, device)):
            return WouldHold, None
        self.now = more(self.now, device)
        return None

    def release(self, device):
        if wrong := self.wrong_device(device):
            return wrong
        if device not in self.now:
            return IsReleased, device
        self.now = less(self.now, device)
        return None

    def swap(self, off, on):
        if wrong := self.wrong_device(off) or self.wrong_device(on):
            return wrong
        if off not in self.now:
            return IsReleased, off
        if on in self.now:
            return IsEngaged, on
        other = more(less(self.now, off), on)
        if self.holds(other):
            return WouldHold, None
        self.now = other
        return None

    def turn(self, turns):
        if kind_of(self.box, self.now) != "driven":
            return NotDriven, None
        if type(turns) is not int or abs(turns) > 1000:
            return InvalidNumber, None
        speeds = speeds_of(self.box, self.now)
        self.turned = [angle + turns * speed for angle, speed in zip(self.turned, speeds)]
        return None

    def mark(self):
        if len(self.kept) == 6:
            return Full, 6
        self.kept.append((self.now, self.turned))
        return len(self.kept) - 1

    def back(self, number):
        if not is_number(number, len(self.kept)):
            return InvalidMark, number
        self.now, self.turned = self.kept[number]
        del self.kept[number + 1 :]
        return None

    def engaged(self):
        return self.now

    def kind(self):
        return kind_of(self.box, self.now)

    def angles(self):
        return tuple((angle.numerator, angle.denominator) for angle in self.turned)

    def marks(self):
        return list(range(len(self.kept)))

    def can_engage(self):
        released = [device for device in range(len(self.box[2])) if device not in self.now]
        return [device for device in released if not self.holds(more(self.now, device))]


def startable():
    return [box for box in SAMPLES.values() if kind_of(box, ()) != "held"]


class WorkspaceTest(BoxTest):
    def agrees(self, space, model, queries=QUERIES):
        """Check what these methods return."""
        for name in queries:
            expected = getattr(model, name)()
            found = getattr(space, name)()
            self.assertIs(type(found), type(expected), name)
            self.assertEqual(repr(found), repr(expected), name)

    def calls(self, space, model, name, *arguments):
        """Make a call, and check its result or its error."""
        expected = getattr(model, name)(*arguments)
        if type(expected) is not tuple:
            result = getattr(space, name)(*arguments)
            self.assertIs(type(result), type(expected), name)
            self.assertEqual(result, expected, name)
            return
        error, value = expected
        if error in KEPT:
            self.fails_with(error, KEPT[error], value, getattr(space, name), *arguments)
        else:
            self.fails(error, getattr(space, name), *arguments)

    def refuses(self, space, error, name, *arguments):
        """Check the error of a call, and that it changes nothing."""
        before = [repr(getattr(space, query)()) for query in QUERIES]
        caught = self.fails(error, getattr(space, name), *arguments)
        self.assertEqual([repr(getattr(space, query)()) for query in QUERIES], before)
        return caught

    def refuses_with(self, space, error, value, name, *arguments):
        """Check the error of a call with the value that it keeps, and that the call changes nothing."""
        kept = getattr(self.refuses(space, error, name, *arguments), KEPT[error])
        self.assertIs(type(kept), type(value))
        self.assertEqual(repr(kept), repr(value))

    def ready(self, box, *devices):
        """A new workspace with these devices engaged."""
        space = Workspace(box)
        for device in devices:
            space.engage(device)
        return space


class HistoriesTest(WorkspaceTest):
    """Long histories of calls, held against the model."""

    def one_call(self, stream, model):
        """Make up a call."""
        many = max(1, len(model.box[2]))
        odd = (*ODD_VALUES, many, many + 1, -many)

        def device(engaged):
            pool = [k for k in range(len(model.box[2])) if (k in model.now) == engaged]
            if pool and next(stream) % 10:
                return pool[next(stream) % len(pool)]
            return (*range(many), *odd)[next(stream) % (many + len(odd))] if next(stream) % 2 else next(stream) % many

        choice = next(stream) % 20
        if choice < 6:
            return "engage", device(False)
        if choice < 8:
            return "release", device(True)
        if choice < 12:
            return "swap", device(True), device(False)
        if choice < 16:
            pool = (1, -1, 0, 1000, -1000, 7, 360, -31, 1001, -1001, True, None, "1", (1,), [1])
            return "turn", pool[next(stream) % len(pool)]
        if choice < 18:
            return ("mark",)
        pool = (*range(7), *odd[:6])
        return "back", pool[next(stream) % len(pool)]

    def test_histories(self):
        orders = list(permutations(QUERIES))
        turned = 0
        for at, box in enumerate(startable()):
            stream = numbers(at + 1)
            space, model = Workspace(box), Model(copied(box))
            self.agrees(space, model)
            for _ in range(150):
                self.calls(space, model, *self.one_call(stream, model))
                queries = orders[next(stream) % len(orders)]
                self.agrees(space, model, queries[: next(stream) % 3])
                self.agrees(space, model, queries)
            turned += any(model.turned)
        self.assertGreater(turned, 25)

    def test_one_query_at_a_time(self):
        for name in QUERIES:
            stream = numbers(99)
            for box in (PLANET, CHAIN, TWINS, SAMPLES["two planet sets"]):
                space, model = Workspace(box), Model(box)
                for _ in range(150):
                    self.calls(space, model, *self.one_call(stream, model))
                    self.agrees(space, model, (name,))

    def test_without_queries(self):
        for box in (PLANET, SAMPLES["two planet sets"], SAMPLES["eight shafts, eight devices"]):
            stream = numbers(5)
            space, model = Workspace(box), Model(box)
            for _ in range(400):
                self.calls(space, model, *self.one_call(stream, model))
            self.agrees(space, model)

    def test_every_kind_of_error(self):
        found = set()
        for at, box in enumerate(startable()):
            stream = numbers(at + 1)
            model = Model(box)
            for _ in range(150):
                name, *arguments = self.one_call(stream, model)
                result = getattr(model, name)(*arguments)
                found.add((name, result[0]) if type(result) is tuple else name)
        self.assertEqual(
            found,
            {"engage", ("engage", InvalidDevice), ("engage", IsEngaged), ("engage", WouldHold)}
            | {"release", ("release", InvalidDevice), ("release", IsReleased)}
            | {"swap", ("swap", InvalidDevice), ("swap", IsReleased), ("swap", IsEngaged), ("swap", WouldHold)}
            | {"turn", ("turn", NotDriven), ("turn", InvalidNumber)}
            | {"mark", ("mark", Full), "back", ("back", InvalidMark)},
        )

    def test_the_engaged_set_is_never_held(self):
        for at, box in enumerate(startable()):
            stream = numbers(at + 50)
            space, model = Workspace(box), Model(box)
            for _ in range(60):
                self.calls(space, model, *self.one_call(stream, model))
                self.assertNotEqual(kind_of(box, space.engaged()), "held")
                self.assertEqual(space.kind(), kind_of(box, space.engaged()))


class NewTest(WorkspaceTest):
    def test_new_workspaces(self):
        for box in startable():
            space = Workspace(box)
            self.assertEqual(space.engaged(), ())
            self.assertEqual(space.kind(), kind_of(box, ()))
            self.assertEqual(space.angles(), ((0, 1),) * box[0])
            self.assertEqual(space.marks(), [])

    def test_wrong_boxes(self):
        for wrong in (*WRONG_BOXES, *ODD_VALUES):
            self.fails(InvalidBox, Workspace, wrong)

    def test_boxes_held_with_no_device_engaged(self):
        held = [box for box in SAMPLES.values() if kind_of(box, ()) == "held"]
        self.assertGreater(len(held), 4)
        for box in held:
            self.fails(WouldHold, Workspace, box)

    def test_methods_are_defined_in_the_class(self):
        for name in (*QUERIES, "engage", "release", "swap", "turn", "mark", "back"):
            self.assertIn(name, vars(Workspace))
        self.assertEqual(Workspace.__module__, "planetbox.workspace")

    def test_two_workspaces(self):
        first, second = Workspace(PLANET), Workspace(PLANET)
        first.engage(0)
        first.turn(3)
        first.mark()
        self.assertEqual((second.engaged(), second.angles(), second.marks()), ((), ((0, 1),) * 3, []))
        second.engage(1)
        second.turn(-1)
        self.assertEqual((first.engaged(), first.angles(), first.marks()), ((0,), ((3, 1), (0, 1), (9, 10)), [0]))
        self.assertEqual((second.engaged(), second.angles(), second.marks()), ((1,), ((-1, 1),) * 3, []))
        first.back(0)
        self.refuses_with(second, InvalidMark, 0, "back", 0)

    def test_histories_side_by_side(self):
        box = SAMPLES["two planet sets"]
        pairs = [(Workspace(box), Model(box), numbers(seed)) for seed in range(4)]
        maker = HistoriesTest()
        for _ in range(100):
            for space, model, stream in pairs:
                self.calls(space, model, *maker.one_call(stream, model))
            for space, model, _ in pairs:
                self.agrees(space, model)

    def test_returned_lists_are_new(self):
        space = self.ready(PLANET, 0)
        space.mark()
        space.mark()
        space.back(1)
        space.release(0)
        for name, expected in (("marks", [0, 1]), ("can_engage", [0, 1])):
            self.gives_new_lists(getattr(space, name))
            kept = getattr(space, name)()
            space.engage(0)
            space.back(0)
            space.release(0)
            space.mark()
            self.assertEqual(kept, expected)
            getattr(space, name)().clear()
            self.assertEqual(getattr(space, name)(), expected)


class EngageTest(WorkspaceTest):
    def test_results(self):
        space = Workspace(PLANET)
        self.assertIsNone(space.engage(0))
        self.assertIsNone(space.swap(0, 1))
        self.assertIsNone(space.release(1))
        self.assertEqual(space.engaged(), ())

    def test_engaged_sets_ascend(self):
        space = self.ready(CHAIN, 5, 2, 7, 0)
        self.assertEqual(space.engaged(), (0, 2, 5, 7))
        space.swap(5, 1)
        self.assertEqual(space.engaged(), (0, 1, 2, 7))
        space.release(1)
        self.assertEqual(space.engaged(), (0, 2, 7))

    def test_wrong_devices(self):
        for box, engaged in ((PLANET, (0,)), (PLANET, ()), (TWINS, (0, 1)), ((2, (), ()), ())):
            space = self.ready(box, *engaged)
            many = len(box[2])
            for wrong in (*ODD_VALUES, many, many + 1, -many - 1, "1", (), (1,), [1], 10**999):
                self.refuses_with(space, InvalidDevice, wrong, "engage", wrong)
                self.refuses_with(space, InvalidDevice, wrong, "release", wrong)
                for device in range(many):
                    self.refuses_with(space, InvalidDevice, wrong, "swap", wrong, device)
                    self.refuses_with(space, InvalidDevice, wrong, "swap", device, wrong)
                for other in (many + 7, None, [2]):
                    self.refuses_with(space, InvalidDevice, wrong, "swap", wrong, other)
                    self.refuses_with(space, InvalidDevice, other, "swap", other, wrong)

    def test_engaged_and_released(self):
        space = self.ready(TWINS, 0, 1)
        for device in (0, 1):
            self.refuses_with(space, IsEngaged, device, "engage", device)
        for device in (2, 3):
            self.refuses_with(space, IsReleased, device, "release", device)

    def test_would_hold(self):
        space = self.ready(TWINS, 0)
        self.refuses_with(space, IsEngaged, 0, "engage", 0)
        self.refuses(space, WouldHold, "engage", 2)
        self.refuses(space, WouldHold, "engage", 3)
        self.refuses(Workspace(TWINS), WouldHold, "engage", 3)

    def test_order_of_the_errors_of_a_swap(self):
        space = self.ready(TWINS, 0, 1)
        for off in (2, 3):
            for on in range(4):
                self.refuses_with(space, IsReleased, off, "swap", off, on)
        for off in (0, 1):
            for on in (0, 1):
                self.refuses_with(space, IsEngaged, on, "swap", off, on)
            for on in (2, 3):
                self.refuses(space, WouldHold, "swap", off, on)

    def test_the_same_device_twice(self):
        space = self.ready(PLANET, 0)
        self.refuses_with(space, IsEngaged, 0, "swap", 0, 0)
        self.refuses_with(space, IsReleased, 1, "swap", 1, 1)

    def test_swap_at_once(self):
        # With both devices engaged the box would be held.
        space = self.ready(PLANET, 0)
        self.refuses(space, WouldHold, "engage", 1)
        space.swap(0, 1)
        self.assertEqual((space.engaged(), space.kind()), ((1,), "driven"))
        self.refuses(self.ready(TWINS, 0), WouldHold, "swap", 0, 3)

    def test_swap_of_a_loose_set(self):
        space = self.ready(CHAIN, 0, 3)
        space.swap(0, 7)
        self.assertEqual((space.engaged(), space.kind()), ((3, 7), "loose"))

    def test_can_engage(self):
        for at, box in enumerate(startable()):
            stream = numbers(at)
            space = Workspace(box)
            for _ in range(10):
                accepted = space.can_engage()
                for device in range(len(box[2])):
                    other = self.ready(box, *space.engaged())
                    if device in accepted:
                        self.assertIsNone(other.engage(device))
                    else:
                        error = IsEngaged if device in space.engaged() else WouldHold
                        self.refuses(other, error, "engage", device)
                if accepted and next(stream) % 4:
                    space.engage(accepted[next(stream) % len(accepted)])
                elif space.engaged():
                    space.release(space.engaged()[next(stream) % len(space.engaged())])

    def test_can_engage_by_hand(self):
        space = Workspace(TWINS)
        self.assertEqual(space.can_engage(), [0, 1, 2])
        space.engage(1)
        self.assertEqual(space.can_engage(), [0])
        space.engage(0)
        self.assertEqual(space.can_engage(), [])
        space.release(1)
        space.swap(0, 1)
        self.assertEqual(space.can_engage(), [0])
        space.release(1)
        space.engage(2)
        self.assertEqual(space.can_engage(), [])


class TurnTest(WorkspaceTest):
    def test_limits(self):
        space = self.ready(PLANET, 1)
        for turns, total in ((-1000, -1000), (0, -1000), (1000, 0), (1000, 1000), (1000, 2000), (-1, 1999)):
            self.assertIsNone(space.turn(turns))
            self.assertEqual(space.angles(), ((total, 1),) * 3)
        for wrong in wrong_numbers(-1000, 1000):
            self.refuses(space, InvalidNumber, "turn", wrong)

    def test_not_driven_before_wrong_numbers(self):
        for box in startable():
            space = Workspace(box)
            if space.kind() == "loose":
                for turns in (1, 0, -1001, 1001, True, None, [1]):
                    self.refuses(space, NotDriven, "turn", turns)

    def test_turns_in_different_sets(self):
        space = self.ready(PLANET, 0)
        space.turn(1)
        self.assertEqual(space.angles(), ((1, 1), (0, 1), (3, 10)))
        space.turn(1)
        self.assertEqual(space.angles(), ((2, 1), (0, 1), (3, 5)))
        space.swap(0, 1)
        space.turn(-3)
        self.assertEqual(space.angles(), ((-1, 1), (-3, 1), (-12, 5)))
        space.release(1)
        self.refuses(space, NotDriven, "turn", 1)
        space.engage(0)
        space.turn(8)
        self.assertEqual(space.angles(), ((7, 1), (-3, 1), (0, 1)))

    def test_fractions_with_different_second_numbers(self):
        box = (3, (("mesh", 0, 20, 1, 30), ("planet", 0, 11, 1, 13, 2)), ())
        space = Workspace(box)
        space.turn(1)
        self.assertEqual(space.angles(), ((1, 1), (-2, 3), (7, 72)))
        space.turn(8)
        self.assertEqual(space.angles(), ((9, 1), (-6, 1), (7, 8)))

    def test_releasing_and_engaging_turns_nothing(self):
        space = self.ready(PLANET, 0)
        space.turn(7)
        before = space.angles()
        space.swap(0, 1)
        space.release(1)
        space.engage(0)
        self.assertEqual(space.angles(), before)


class MarksTest(WorkspaceTest):
    def test_six_marks(self):
        space = self.ready(PLANET, 0)
        for number in range(6):
            self.assertEqual(space.marks(), list(range(number)))
            found = space.mark()
            self.assertIs(type(found), int)
            self.assertEqual(found, number)
            space.turn(1)
        self.assertEqual(space.marks(), [0, 1, 2, 3, 4, 5])
        self.refuses_with(space, Full, 6, "mark")
        self.refuses_with(space, Full, 6, "mark")

    def test_back(self):
        space = self.ready(PLANET, 0)
        space.turn(1)
        space.mark()
        space.swap(0, 1)
        space.turn(4)
        space.mark()
        space.release(1)
        space.mark()
        self.assertIsNone(space.back(1))
        self.assertEqual((space.engaged(), space.marks()), ((1,), [0, 1]))
        self.assertEqual(space.angles(), ((5, 1), (4, 1), (43, 10)))
        self.refuses_with(space, InvalidMark, 2, "back", 2)
        space.back(0)
        self.assertEqual((space.engaged(), space.marks()), ((0,), [0]))
        self.assertEqual(space.angles(), ((1, 1), (0, 1), (3, 10)))
        self.assertEqual(space.mark(), 1)

    def test_back_to_the_same_mark_twice(self):
        space = self.ready(PLANET, 0)
        space.mark()
        for _ in range(3):
            space.turn(9)
            space.swap(0, 1)
            space.back(0)
            self.assertEqual((space.engaged(), space.angles(), space.marks()), ((0,), ((0, 1),) * 3, [0]))
            space.back(0)
            self.assertEqual((space.engaged(), space.angles(), space.marks()), ((0,), ((0, 1),) * 3, [0]))

    def test_room_again(self):
        space = self.ready(PLANET, 0)
        for _ in range(6):
            space.mark()
        space.back(5)
        self.refuses_with(space, Full, 6, "mark")
        space.back(3)
        self.assertEqual(space.marks(), [0, 1, 2, 3])
        self.assertEqual([space.mark(), space.mark()], [4, 5])
        self.refuses_with(space, Full, 6, "mark")
        space.back(0)
        self.assertEqual([space.mark() for _ in range(5)], [1, 2, 3, 4, 5])

    def test_a_mark_made_again(self):
        space = Workspace(PLANET)
        space.mark()
        space.engage(0)
        space.mark()
        space.back(0)
        space.engage(1)
        self.assertEqual(space.mark(), 1)
        space.release(1)
        space.back(1)
        self.assertEqual(space.engaged(), (1,))

    def test_marks_of_loose_sets(self):
        space = Workspace(PLANET)
        space.mark()
        space.engage(1)
        space.turn(2)
        space.back(0)
        self.assertEqual((space.engaged(), space.kind(), space.angles()), ((), "loose", ((0, 1),) * 3))

    def test_wrong_marks(self):
        for marks in range(7):
            space = self.ready(PLANET, 0)
            for _ in range(marks):
                space.turn(1)
                space.mark()
            wrongs = [value for value in ODD_VALUES if not is_number(value, marks)]
            for wrong in (*wrongs, marks, marks + 1, -marks - 1, 6, 7, (0,), [0], "0"):
                self.refuses_with(space, InvalidMark, wrong, "back", wrong)


class MainPromiseTest(WorkspaceTest):
    def test_shifts_by_swaps_of_a_workspace(self):
        for box in startable():
            sets = full_sets(box)
            for first in sets[:4]:
                for second in sets[-4:]:
                    space = self.ready(box, *first)
                    for before, after in zip(shift(box, first, second), shift(box, first, second)[1:]):
                        self.assertEqual((space.kind(), space.engaged()), ("driven", before))
                        (off,) = set(before) - set(after)
                        (on,) = set(after) - set(before)
                        space.swap(off, on)
                        space.turn(1)
                    self.assertEqual((space.kind(), space.engaged()), ("driven", second))
                    self.assertEqual(space.angles()[0], (len(set(first) - set(second)), 1))

    def test_devices_of_full_sets_in_any_order(self):
        for box in startable():
            for engaged in full_sets(box)[::4]:
                for order in list(permutations(engaged))[:24:3]:
                    space = self.ready(box, *order)
                    self.assertEqual((space.kind(), space.engaged()), ("driven", engaged))
                    for device in reversed(order[1:] + order[:1]):
                        space.release(device)
                        self.assertEqual(space.kind(), "loose")
                    self.assertEqual(space.engaged(), ())


if __name__ == "__main__":
    unittest.main()
