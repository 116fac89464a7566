"""Point 27, and what point 3 says of a stand."""

import unittest
from fractions import Fraction
from itertools import permutations
from typing import NamedTuple

from planetbox.errors import Full, InvalidBox, InvalidDevice, InvalidMark, InvalidNumber, InvalidShaft
from planetbox.errors import IsEngaged, IsReleased
from planetbox.firm import firm_wheels
from planetbox.rigs import is_rig
from planetbox.settled import only_course
from planetbox.stand import Stand
from planetbox.states import least_work, state_of
from planetbox.wrongs import InvalidWheel, NotCarried, NotSettled, WouldBar
from tests.load_support import FOUR, LoadTest, corners_of, face_of, firm_in, least_in, let_wheels, load_of
from tests.load_support import ratios_in, shafts_of, state_in
from tests.rig_support import LEVER, values_of
from tests.support import CHAIN, NEVER, ODD_VALUES, PLANET, SAMPLES, WRONG_BOXES, copied, dot, kind_of, less, more
from tests.support import numbers, wrong_numbers, wrong_shafts

KEPT = {
    InvalidDevice: "device",
    IsEngaged: "device",
    IsReleased: "device",
    InvalidWheel: "wheel",
    InvalidShaft: "shaft",
    Full: "limit",
    InvalidMark: "number",
}
QUERIES = ("rig", "engaged", "burdens", "angles", "leads", "spent", "marks", "state", "firm")
CHANGES = ("engage", "release", "add_wheel", "drop_wheel", "lay", "turn", "mark", "back")
TWINS = (2, (), (("clutch", 0, 1), ("clutch", 0, 1), ("brake", 1), ("brake", 0)))
GEARED = (3, (("mesh", 0, 20, 1, 30), ("planet", 0, 11, 1, 13, 2)), ())


def is_number(value, many):
    return type(value) is int and 0 <= value < many


def is_wheel(value, shafts):
    """Whether the value is a freewheel, as point 19 words it."""
    if type(value) is not tuple or not value:
        return False
    if value[0] == "back":
        return len(value) == 2 and is_number(value[1], shafts)
    if value[0] == "over":
        fits = len(value) == 3 and all(is_number(shaft, shafts) for shaft in value[1:])
        return fits and value[1] != value[2]
    return False


def pair(number):
    return number.numerator, number.denominator


class Fails(NamedTuple):
    """What a call of the model returns if the stand is to raise an error."""

    error: type
    value: object = None


class Model:
    """A stand as point 27 words it. Each call returns its result, or the error and its value."""

    def __init__(self, box):
        self.box = box
        self.wheels, self.now, self.laid = (), (), (0,) * (box[0] - 1)
        self.turned, self.ahead, self.work = [Fraction(0)] * box[0], (), Fraction(0)
        self.kept = []

    def bars(self, wheels, engaged):
        return not corners_of((self.box, wheels), engaged)

    def wrong_device(self, device):
        return None if is_number(device, len(self.box[2])) else Fails(InvalidDevice, device)

    def engage(self, device):
        if wrong := self.wrong_device(device):
            return wrong
        if device in self.now:
            return Fails(IsEngaged, device)
        if self.bars(self.wheels, more(self.now, device)):
            return Fails(WouldBar)
        self.now = more(self.now, device)
        return None

    def release(self, device):
        if wrong := self.wrong_device(device):
            return wrong
        if device not in self.now:
            return Fails(IsReleased, device)
        self.now = less(self.now, device)
        return None

    def add_wheel(self, wheel):
        if not is_wheel(wheel, self.box[0]):
            return Fails(InvalidWheel, wheel)
        if len(self.wheels) == 6:
            return Fails(Full, 6)
        if self.bars((*self.wheels, wheel), self.now):
            return Fails(WouldBar)
        self.wheels, self.ahead = (*self.wheels, wheel), (*self.ahead, Fraction(0))
        return len(self.wheels) - 1

    def drop_wheel(self, number):
        if not is_number(number, len(self.wheels)):
            return Fails(InvalidWheel, number)
        self.wheels = tuple(wheel for at, wheel in enumerate(self.wheels) if at != number)
        self.ahead = tuple(lead for at, lead in enumerate(self.ahead) if at != number)
        return None

    def lay(self, shaft, burden):
        if not is_number(shaft, self.box[0]) or shaft == 0:
            return Fails(InvalidShaft, shaft)
        if type(burden) is not int or abs(burden) > 100:
            return Fails(InvalidNumber)
        self.laid = tuple(burden if at == shaft else own for at, own in enumerate(self.laid, 1))
        return None

    def loaded(self):
        return (self.box, self.wheels), self.now, self.laid

    def turn(self, turns):
        if self.state() != "carried":
            return Fails(NotCarried)
        found = [ratios_in(*self.loaded(), shaft) for shaft in range(self.box[0])]
        if any(len(ratios) > 1 for ratios in found):
            return Fails(NotSettled)
        if type(turns) is not int or not 0 <= turns <= 1000:
            return Fails(InvalidNumber)
        speeds = [min(ratios) for ratios in found]
        self.turned = [angle + turns * speed for angle, speed in zip(self.turned, speeds)]
        values = values_of((self.box, self.wheels), speeds)
        self.ahead = tuple(lead + turns * value for lead, value in zip(self.ahead, values))
        self.work += turns * least_in(*self.loaded())
        return None

    def mark(self):
        if len(self.kept) == 6:
            return Fails(Full, 6)
        self.kept.append((self.wheels, self.now, self.laid, self.turned, self.ahead, self.work))
        return len(self.kept) - 1

    def back(self, number):
        if not is_number(number, len(self.kept)):
            return Fails(InvalidMark, number)
        self.wheels, self.now, self.laid, self.turned, self.ahead, self.work = self.kept[number]
        del self.kept[number + 1 :]
        return None

    def rig(self):
        return self.box, self.wheels

    def engaged(self):
        return self.now

    def burdens(self):
        return self.laid

    def angles(self):
        return tuple(map(pair, self.turned))

    def leads(self):
        return tuple(map(pair, self.ahead))

    def spent(self):
        return pair(self.work)

    def marks(self):
        return list(range(len(self.kept)))

    def state(self):
        return state_in(*self.loaded())

    def firm(self):
        return firm_in(*self.loaded()) if self.state() == "carried" else Fails(NotCarried)


def startable():
    return [box for box in SAMPLES.values() if kind_of(box, ()) != "held"] + [LEVER, GEARED, TWINS, FOUR[0]]


def told(stand, name):
    """What a query tells, written out, or the name of its error."""
    try:
        return repr(getattr(stand, name)())
    except NotCarried:
        return "NotCarried"


class StandTest(LoadTest):
    def agrees(self, stand, model, queries=QUERIES):
        """Check what these methods return."""
        for name in queries:
            self.calls(stand, model, name)

    def calls(self, stand, model, name, *arguments):
        """Make a call, and check its result or its error."""
        expected = getattr(model, name)(*arguments)
        if not isinstance(expected, Fails):
            result = getattr(stand, name)(*arguments)
            self.assertIs(type(result), type(expected), name)
            self.assertEqual(repr(result), repr(expected), name)
        elif expected.error in KEPT:
            self.fails_with(expected.error, KEPT[expected.error], expected.value, getattr(stand, name), *arguments)
        else:
            self.fails(expected.error, getattr(stand, name), *arguments)
        return expected

    def refuses(self, stand, error, name, *arguments):
        """Check the error of a call, and that it changes nothing."""
        before = [told(stand, query) for query in QUERIES]
        caught = self.fails(error, getattr(stand, name), *arguments)
        self.assertEqual([told(stand, query) for query in QUERIES], before)
        return caught

    def refuses_with(self, stand, error, value, name, *arguments):
        """Check the error of a call with the value that it keeps, and that the call changes nothing."""
        kept = getattr(self.refuses(stand, error, name, *arguments), KEPT[error])
        self.assertIs(type(kept), type(value))
        self.assertEqual(repr(kept), repr(value))

    def ready(self, box, wheels=(), engaged=(), burdens=None):
        """A new stand with these freewheels, engaged devices and burdens."""
        stand = Stand(box)
        for wheel in wheels:
            stand.add_wheel(wheel)
        for device in engaged:
            stand.engage(device)
        for shaft, burden in enumerate(burdens or (), 1):
            stand.lay(shaft, burden)
        return stand


def one_call(stream, model):
    """Make up a call."""
    shafts, many = model.box[0], max(1, len(model.box[2]))

    def one_of(values):
        return values[next(stream) % len(values)]

    def device(engaged):
        pool = [k for k in range(len(model.box[2])) if (k in model.now) == engaged]
        if pool and next(stream) % 10:
            return one_of(pool)
        return one_of((*range(many), many, -1, None, True, "0", (0,)))

    def wheel():
        choice = next(stream) % 12
        if choice == 0:
            return one_of((*ODD_VALUES, ("over", 1, 1), ("back", shafts), ["back", 0], ("back",), ("over", 0)))
        if choice < 6:
            return let_wheels(model.box, model.now, next(stream), 1)[0]
        first, second = next(stream) % shafts, next(stream) % shafts
        return ("back", first) if first == second else ("over", first, second)

    choice = next(stream) % 40
    if choice < 5:
        return "engage", device(False)
    if choice < 8:
        return "release", device(True)
    if choice < 15:
        return "add_wheel", wheel()
    if choice < 17:
        return "drop_wheel", one_of((*range(6), *range(6), -1, 6, None, True, "0", ("back", 0)))
    if choice < 23:
        shaft = 1 + next(stream) % (shafts - 1) if next(stream) % 12 else one_of((0, shafts, -1, None, True, [1]))
        burdens = (0, 0, 1, -1, 2, 3, 5, -7, 100, -100, 101, -101, True, None, next(stream) % 201 - 100)
        return "lay", shaft, one_of(burdens)
    if choice < 33:
        return "turn", one_of((1, 1, 2, 3, 7, 60, 360, 1000, 0, 1001, -1, True, None, "1", (1,), [1]))
    if choice < 37:
        return ("mark",)
    return "back", one_of((*range(7), *range(4), -1, None, True, "0"))


class HistoriesTest(StandTest):
    """Long histories of calls, held against the model."""

    def test_histories(self):
        orders = list(permutations(QUERIES, 5))
        found = {}
        for at, box in enumerate(startable()):
            stream = numbers(at + 1)
            stand, model = Stand(box), Model(copied(box))
            self.agrees(stand, model)
            for _ in range(110):
                name, *arguments = one_call(stream, model)
                result = self.calls(stand, model, name, *arguments)
                key = name, result.error if isinstance(result, Fails) else None
                found[key] = found.get(key, 0) + 1
                queries = orders[next(stream) % len(orders)]
                self.agrees(stand, model, queries[: next(stream) % 3])
                self.agrees(stand, model)
                self.assertNotEqual(stand.state(), "barred")
        self.every_outcome(found)

    def every_outcome(self, found):
        """Check that each call has returned, and has raised each of its errors, several times."""
        expected = {(name, None) for name in CHANGES}
        for name, errors in {
            "engage": (InvalidDevice, IsEngaged, WouldBar),
            "release": (InvalidDevice, IsReleased),
            "add_wheel": (InvalidWheel, Full, WouldBar),
            "drop_wheel": (InvalidWheel,),
            "lay": (InvalidShaft, InvalidNumber),
            "turn": (NotCarried, NotSettled, InvalidNumber),
            "mark": (Full,),
            "back": (InvalidMark,),
        }.items():
            expected |= {(name, error) for error in errors}
        self.assertEqual(set(found), expected)
        self.assertGreater(min(found.values()), 5, found)
        self.assertGreater(found["turn", None], 300)

    def test_one_query_at_a_time(self):
        for at, name in enumerate(QUERIES):
            for box in (PLANET, TWINS, LEVER, GEARED):
                stream = numbers(90 + at)
                stand, model = Stand(box), Model(box)
                for _ in range(80):
                    self.calls(stand, model, *one_call(stream, model))
                    self.calls(stand, model, name)

    def test_without_queries(self):
        for box in (PLANET, LEVER, SAMPLES["two planet sets"], FOUR[0], CHAIN):
            stream = numbers(17)
            stand, model = Stand(box), Model(box)
            for _ in range(300):
                self.calls(stand, model, *one_call(stream, model))
            self.agrees(stand, model)

    def test_side_by_side(self):
        pairs = [(Stand(box), Model(box), numbers(at)) for at, box in enumerate((LEVER, LEVER, PLANET, PLANET))]
        for _ in range(100):
            for stand, model, stream in pairs:
                self.calls(stand, model, *one_call(stream, model))
            for stand, model, _ in pairs:
                self.agrees(stand, model)

    def test_queries_agree_with_the_functions(self):
        for at, box in enumerate(startable()[::3]):
            stream = numbers(at + 400)
            stand, model = Stand(box), Model(box)
            for _ in range(60):
                self.calls(stand, model, *one_call(stream, model))
                loaded = stand.rig(), stand.engaged(), stand.burdens()
                self.assertIs(is_rig(stand.rig()), True)
                self.assertEqual(stand.state(), state_of(*loaded))
                if stand.state() == "carried":
                    self.assertEqual(stand.firm(), firm_wheels(*loaded))


class LedgerTest(StandTest):
    """What point 27 says of the leads and of the spent work, through histories."""

    def numbers_of(self, fractions):
        return [self.is_fraction(value) for value in fractions]

    def test_leads_and_spent_work(self):
        grown = unchanged = 0
        for at, box in enumerate(startable()):
            stream = numbers(at + 200)
            stand, model = Stand(box), Model(box)
            for _ in range(60):
                name, *arguments = one_call(stream, model)
                before = stand.rig(), stand.engaged(), stand.burdens(), stand.angles(), stand.leads(), stand.spent()
                result = self.calls(stand, model, name, *arguments)
                if name == "turn" and result is None:
                    grown += arguments[0] > 0
                    self.is_turned(stand, before, arguments[0])
                elif name not in ("turn", "back", "add_wheel", "drop_wheel") or isinstance(result, Fails):
                    unchanged += 1
                    if name != "back":
                        self.assertEqual((stand.angles(), stand.leads(), stand.spent()), before[3:])
                if name == "add_wheel" and not isinstance(result, Fails):
                    self.assertEqual(stand.leads(), before[4] + ((0, 1),))
                    self.assertEqual((stand.angles(), stand.spent()), (before[3], before[5]))
        self.assertGreater(grown, 150)
        self.assertGreater(unchanged, 500)

    def is_turned(self, stand, before, turns):
        """Check what a turn has changed."""
        rig, engaged, burdens, angles, leads, spent = before
        firm = firm_in(rig, engaged, burdens)
        for wheel, (old, new) in enumerate(zip(self.numbers_of(leads), self.numbers_of(stand.leads()))):
            self.assertIs(new > old, turns > 0 and wheel not in firm)
            self.assertGreaterEqual(new, old)
        growth = [new - old for old, new in zip(self.numbers_of(angles), self.numbers_of(stand.angles()))]
        self.assertEqual(growth[0], turns)
        by_values = [new - old for old, new in zip(self.numbers_of(leads), self.numbers_of(stand.leads()))]
        self.assertEqual(tuple(by_values), values_of(rig, growth))
        work = self.is_fraction(stand.spent()) - self.is_fraction(spent)
        self.assertEqual(work, dot(burdens, growth[1:]))
        self.assertEqual(work, turns * least_in(rig, engaged, burdens))
        self.assertEqual(work, turns * self.is_fraction(least_work(rig, engaged, burdens)))
        only = only_course(rig, engaged, burdens)
        self.assertEqual(growth, [Fraction(turns * entry, only[0]) for entry in only])
        self.assertEqual((stand.rig(), stand.engaged(), stand.burdens()), before[:3])


class NewTest(StandTest):
    def test_new_stands(self):
        for box in startable():
            stand = Stand(box)
            self.assertEqual(stand.rig(), (box, ()))
            self.assertEqual((stand.engaged(), stand.burdens()), ((), (0,) * (box[0] - 1)))
            self.assertEqual((stand.angles(), stand.leads(), stand.spent()), (((0, 1),) * box[0], (), (0, 1)))
            self.assertEqual((stand.marks(), stand.state(), stand.firm()), ([], "carried", ()))

    def test_wrong_boxes(self):
        for wrong in (*WRONG_BOXES, *ODD_VALUES, (PLANET, ())):
            self.fails(InvalidBox, Stand, wrong)

    def test_boxes_held_with_no_device_engaged(self):
        held = [box for box in SAMPLES.values() if kind_of(box, ()) == "held"]
        self.assertGreater(len(held), 4)
        for box in held:
            self.fails(WouldBar, Stand, box)

    def test_methods_are_defined_in_the_class(self):
        for name in (*QUERIES, *CHANGES):
            self.assertIn(name, vars(Stand))
        self.assertEqual(Stand.__module__, "planetbox.stand")

    def test_two_stands(self):
        first = self.ready(PLANET, [("back", 1)], (), (0, 1))
        second = Stand(PLANET)
        first.turn(10)
        first.mark()
        self.assertEqual(second.rig(), (PLANET, ()))
        self.assertEqual((second.engaged(), second.burdens(), second.marks()), ((), (0, 0), []))
        self.assertEqual((second.angles(), second.leads(), second.spent()), (((0, 1),) * 3, (), (0, 1)))
        second.engage(1)
        second.lay(1, 5)
        second.turn(2)
        self.assertEqual((first.engaged(), first.burdens(), first.marks()), ((), (0, 1), [0]))
        self.assertEqual(first.angles(), ((10, 1), (0, 1), (3, 1)))
        self.assertEqual((first.leads(), first.spent(), first.firm()), (((0, 1),), (3, 1), (0,)))
        self.assertEqual((second.angles(), second.spent()), (((2, 1),) * 3, (10, 1)))
        self.refuses_with(second, InvalidMark, 0, "back", 0)

    def test_returned_lists_are_new(self):
        stand = Stand(PLANET)
        stand.mark()
        stand.mark()
        self.gives_new_lists(stand.marks)
        kept = stand.marks()
        stand.back(0)
        self.assertEqual(kept, [0, 1])
        stand.marks().clear()
        self.assertEqual(stand.marks(), [0])
        self.assertEqual(stand.mark(), 1)

    def test_results(self):
        stand = Stand(PLANET)
        found = [stand.add_wheel(("back", 1)), stand.lay(2, 1), stand.engage(1), stand.turn(1), stand.mark()]
        self.assertEqual(found, [0, None, None, None, 0])
        found = [stand.release(1), stand.add_wheel(("over", 0, 1)), stand.drop_wheel(0), stand.mark(), stand.back(0)]
        self.assertEqual(found, [None, 1, None, 1, None])
        self.assertIs(type(stand.mark()), int)


class EngageTest(StandTest):
    def test_wrong_devices(self):
        for stand in (self.ready(PLANET, [("back", 1)], (0,)), Stand((2, (), ())), self.ready(TWINS, (), (0, 1))):
            many = len(stand.rig()[0][2])
            for wrong in (*[one for one in ODD_VALUES if not is_number(one, many)], many, -many - 1, "1", (), [1]):
                self.refuses_with(stand, InvalidDevice, wrong, "engage", wrong)
                self.refuses_with(stand, InvalidDevice, wrong, "release", wrong)

    def test_engaged_and_released(self):
        stand = self.ready(TWINS, (), (1, 0))
        self.assertEqual(stand.engaged(), (0, 1))
        for device in (0, 1):
            self.refuses_with(stand, IsEngaged, device, "engage", device)
        for device in (2, 3):
            self.refuses_with(stand, IsReleased, device, "release", device)
            self.refuses(stand, WouldBar, "engage", device)

    def test_would_bar_by_freewheels(self):
        # The ring may not turn backwards, but with the carrier braked it does.
        box = (3, (("planet", 0, 30, 1, 70, 2),), (("brake", 2), ("brake", 1), ("brake", 1)))
        stand = self.ready(box, [("back", 1)])
        self.refuses(stand, WouldBar, "engage", 0)
        stand.engage(1)
        self.refuses(stand, WouldBar, "engage", 0)
        stand.engage(2)
        self.refuses_with(stand, IsEngaged, 1, "engage", 1)
        stand.release(1)
        stand.release(2)
        stand.drop_wheel(0)
        self.assertIsNone(stand.engage(0))
        self.refuses(stand, WouldBar, "add_wheel", ("back", 1))
        self.refuses(stand, WouldBar, "engage", 1)

    def test_slipping_sets_may_be_engaged(self):
        stand = self.ready(CHAIN, (), (), (1,) * 7)
        self.assertEqual(stand.state(), "slipping")
        for device in (3, 0):
            stand.engage(device)
            self.assertEqual(stand.state(), "slipping")
        self.assertEqual(stand.engaged(), (0, 3))


class WheelsTest(StandTest):
    def test_wrong_freewheels(self):
        for stand in (Stand(PLANET), self.ready(PLANET, [("back", 1)] * 6), self.ready(TWINS, (), (0,))):
            shafts = stand.rig()[0][0]
            wrongs = [("over", 1, 1), ("over", 0, shafts), ("over", -1, 0), ("over", 0), ("over", 0, 1, 1)]
            wrongs += [("back", shafts), ("back", -1), ("back", True), ("back",), ("back", 0, 1), ["back", 0], "back"]
            wrongs += [("clutch", 0, 1), ("brake", 0), ("Back", 0), ("over", (0, 1)), ("back", "0"), (("back", 0),)]
            wrongs += [(), 0, ("over", 0, None), ("over", None, 0)]
            for wrong in (*wrongs, *ODD_VALUES, *NEVER):
                self.refuses_with(stand, InvalidWheel, wrong, "add_wheel", wrong)

    def test_six_freewheels(self):
        stand = self.ready(PLANET, (), (1,))
        for number in range(6):
            found = stand.add_wheel(("over", 0, 1))
            self.assertIs(type(found), int)
            self.assertEqual(found, number)
            self.assertEqual(stand.rig(), (PLANET, (("over", 0, 1),) * (number + 1)))
        self.refuses_with(stand, Full, 6, "add_wheel", ("back", 1))
        # It would bar, too, but there is no room first; and a wrong one is wrong first.
        held = self.ready((2, (("mesh", 0, 20, 1, 20),), ()), [("over", 0, 1)] * 6)
        self.refuses_with(held, Full, 6, "add_wheel", ("back", 1))
        self.refuses_with(held, InvalidWheel, ("back", 2), "add_wheel", ("back", 2))
        held.drop_wheel(3)
        self.refuses(held, WouldBar, "add_wheel", ("back", 1))
        self.assertEqual(held.add_wheel(("back", 0)), 5)
        self.assertEqual(held.rig()[1], (("over", 0, 1),) * 5 + (("back", 0),))

    def test_wrong_numbers_of_freewheels(self):
        for many in range(7):
            stand = self.ready(PLANET, [("back", 1)] * many)
            wrongs = [value for value in ODD_VALUES if not is_number(value, many)]
            for wrong in (*wrongs, many, many + 1, -many - 1, 6, 7, (0,), "0", ("back", 1)):
                self.refuses_with(stand, InvalidWheel, wrong, "drop_wheel", wrong)

    def test_later_ones_are_numbered_one_less(self):
        wheels = [("back", 0), ("over", 0, 1), ("back", 2), ("over", 0, 2)]
        for number in range(4):
            stand = self.ready(PLANET, wheels, (0,))
            stand.turn(10)
            self.assertEqual(stand.leads(), ((10, 1), (10, 1), (3, 1), (7, 1)))
            stand.drop_wheel(number)
            left = [0, 1, 2, 3]
            del left[number]
            self.assertEqual(stand.rig(), (PLANET, tuple(wheels[at] for at in left)))
            self.assertEqual(stand.leads(), tuple(((10, 1), (10, 1), (3, 1), (7, 1))[at] for at in left))
            self.assertEqual(stand.angles(), ((10, 1), (0, 1), (3, 1)))
            self.assertEqual(stand.add_wheel(("back", 0)), 3)
            self.assertEqual(stand.leads()[3], (0, 1))
            stand.turn(10)
            expected = [(20, 1), (20, 1), (6, 1), (14, 1)]
            self.assertEqual(stand.leads(), tuple(expected[at] for at in left) + ((10, 1),))

    def test_a_lead_begins_when_the_freewheel_is_put_in(self):
        stand = self.ready(PLANET, [("over", 0, 1)], (0,))
        stand.turn(1)
        stand.add_wheel(("over", 0, 1))
        stand.turn(2)
        stand.add_wheel(("over", 2, 1))
        stand.turn(3)
        self.assertEqual(stand.leads(), ((6, 1), (5, 1), (9, 10)))


class LayTest(StandTest):
    def test_limits(self):
        stand = Stand(LEVER)
        for burden in (-100, 100, 0, 1, -99):
            self.assertIsNone(stand.lay(2, burden))
            self.assertEqual(stand.burdens(), (0, burden, 0))
        for wrong in wrong_numbers(-100, 100):
            for shaft in (1, 2, 3):
                self.refuses(stand, InvalidNumber, "lay", shaft, wrong)
        self.assertEqual(stand.burdens(), (0, -99, 0))

    def test_each_shaft(self):
        for box in startable():
            stand = Stand(box)
            expected = [0] * (box[0] - 1)
            for shaft in (*shafts_of((box, ())), 1):
                stand.lay(shaft, 7 * shaft)
                expected[shaft - 1] = 7 * shaft
                self.assertEqual(stand.burdens(), tuple(expected))

    def test_wrong_shafts_come_first(self):
        for stand in (Stand(PLANET), Stand(CHAIN)):
            for wrong in wrong_shafts(stand.rig()[0]):
                for burden in (0, 101, None, True, [1]):
                    self.refuses_with(stand, InvalidShaft, wrong, "lay", wrong, burden)

    def test_slipping_and_carried(self):
        stand = self.ready(PLANET, [("back", 1)])
        states = {(0, 1): "carried", (0, -1): "slipping", (7, -10): "carried", (7, -11): "slipping"}
        for burdens, state in states.items():
            stand.lay(1, burdens[0])
            stand.lay(2, burdens[1])
            self.assertEqual(stand.state(), state)
            if state == "slipping":
                self.refuses(stand, NotCarried, "firm")


class TurnTest(StandTest):
    def test_limits(self):
        stand = self.ready(PLANET, (), (1,))
        for turns, total in ((0, 0), (1, 1), (1000, 1001), (999, 2000)):
            self.assertIsNone(stand.turn(turns))
            self.assertEqual(stand.angles(), ((total, 1),) * 3)
        for wrong in wrong_numbers(0, 1000):
            self.refuses(stand, InvalidNumber, "turn", wrong)

    def test_order_of_the_errors(self):
        values = (1, 0, 1000, -1, 1001, True, None, "1", (1,), [1])
        for turns in values:
            slipping = self.ready(PLANET, (), (), (0, 1))
            self.refuses(slipping, NotCarried, "turn", turns)
            loose = self.ready(PLANET, (), (), (7, -10))
            self.refuses(loose, NotSettled, "turn", turns)
            self.refuses(Stand(PLANET), NotSettled, "turn", turns)
            # One shaft is settled, the other one is not.
            braked = self.ready((3, (), (("brake", 1), ("brake", 2))), (), (0,))
            self.refuses(braked, NotSettled, "turn", turns)
            braked = self.ready((3, (), (("brake", 1), ("brake", 2))), (), (1,))
            self.refuses(braked, NotSettled, "turn", turns)

    def test_turns_in_different_states(self):
        stand = self.ready(PLANET, [("back", 1), ("over", 0, 1)], (), (0, 1))
        stand.turn(10)
        self.assertEqual((stand.angles(), stand.leads()), (((10, 1), (0, 1), (3, 1)), ((0, 1), (10, 1))))
        self.assertEqual((stand.spent(), stand.firm()), ((3, 1), (0,)))
        stand.lay(2, -2)
        stand.turn(1)
        self.assertEqual((stand.angles(), stand.leads()), (((11, 1), (1, 1), (4, 1)), ((1, 1), (10, 1))))
        self.assertEqual((stand.spent(), stand.firm()), ((1, 1), (1,)))
        stand.drop_wheel(0)
        stand.engage(0)
        stand.lay(1, 100)
        stand.turn(7)
        self.assertEqual((stand.angles(), stand.leads()), (((18, 1), (1, 1), (61, 10)), ((17, 1),)))
        self.assertEqual((stand.spent(), stand.firm()), ((-16, 5), ()))
        stand.release(0)
        self.assertEqual(stand.state(), "slipping")
        self.refuses(stand, NotCarried, "turn", 0)
        self.assertEqual(stand.spent(), (-16, 5))

    def test_fractions_with_different_second_numbers(self):
        stand = self.ready(GEARED, [("over", 0, 1), ("over", 2, 1)], (), (1, -1))
        stand.turn(1)
        self.assertEqual(stand.angles(), ((1, 1), (-2, 3), (7, 72)))
        self.assertEqual((stand.leads(), stand.spent()), (((5, 3), (55, 72)), (-55, 72)))
        stand.turn(8)
        self.assertEqual(stand.angles(), ((9, 1), (-6, 1), (7, 8)))
        self.assertEqual((stand.leads(), stand.spent()), (((15, 1), (55, 8)), (-55, 8)))

    def test_no_turn(self):
        stand = self.ready(PLANET, [("back", 0), ("over", 0, 1)], (0,), (3, 4))
        stand.turn(5)
        before = [told(stand, query) for query in QUERIES]
        stand.turn(0)
        self.assertEqual([told(stand, query) for query in QUERIES], before)

    def test_settled_by_firm_freewheels_alone(self):
        stand = self.ready((3, (), ()), [("over", 1, 0), ("over", 2, 1)])
        self.refuses(stand, NotSettled, "turn", 1)
        stand.lay(1, 1)
        self.refuses(stand, NotSettled, "turn", 1)
        stand.lay(2, 1)
        stand.turn(4)
        self.assertEqual((stand.angles(), stand.firm(), stand.spent()), (((4, 1),) * 3, (0, 1), (8, 1)))
        stand.lay(1, -1)
        self.assertEqual((stand.state(), stand.firm()), ("carried", (1,)))
        self.refuses(stand, NotSettled, "turn", 1)
        stand.lay(1, -2)
        self.assertEqual(stand.state(), "slipping")
        self.refuses(stand, NotCarried, "turn", 1)


class MarksTest(StandTest):
    def test_six_marks(self):
        stand = self.ready(PLANET, (), (1,))
        for number in range(6):
            self.assertEqual(stand.marks(), list(range(number)))
            found = stand.mark()
            self.assertIs(type(found), int)
            self.assertEqual(found, number)
            stand.turn(1)
        self.assertEqual(stand.marks(), [0, 1, 2, 3, 4, 5])
        for _ in range(2):
            self.refuses_with(stand, Full, 6, "mark")
        stand.back(3)
        self.assertEqual(stand.marks(), [0, 1, 2, 3])
        self.assertEqual(stand.angles(), ((3, 1),) * 3)
        self.assertEqual([stand.mark(), stand.mark()], [4, 5])
        self.refuses_with(stand, Full, 6, "mark")

    def test_what_a_mark_restores(self):
        stand = self.ready(PLANET, [("back", 1), ("over", 0, 1)], (), (0, 1))
        stand.turn(10)
        stand.mark()
        before = [told(stand, query) for query in QUERIES]
        stand.lay(2, -50)
        stand.lay(1, 3)
        stand.drop_wheel(0)
        stand.engage(0)
        stand.add_wheel(("back", 2))
        stand.turn(7)
        stand.mark()
        between = [told(stand, query) for query in QUERIES]
        stand.release(0)
        stand.engage(1)
        stand.turn(100)
        stand.drop_wheel(0)
        stand.mark()
        self.assertIsNone(stand.back(1))
        self.assertEqual([told(stand, query) for query in QUERIES], between)
        stand.turn(3)
        self.assertIsNone(stand.back(1))
        self.assertEqual([told(stand, query) for query in QUERIES], between)
        self.assertEqual(stand.marks(), [0, 1])
        self.refuses_with(stand, InvalidMark, 2, "back", 2)
        stand.back(0)
        self.assertEqual([told(stand, query) for query in QUERIES], before)
        self.assertEqual(stand.mark(), 1)

    def test_wrong_marks(self):
        for marks in range(7):
            stand = self.ready(PLANET, (), (0,))
            for _ in range(marks):
                stand.turn(1)
                stand.mark()
            wrongs = [value for value in ODD_VALUES if not is_number(value, marks)]
            for wrong in (*wrongs, marks, marks + 1, -marks - 1, 6, 7, (0,), [0], "0"):
                self.refuses_with(stand, InvalidMark, wrong, "back", wrong)

    def test_a_mark_made_again(self):
        stand = Stand(PLANET)
        stand.mark()
        stand.engage(0)
        stand.mark()
        stand.back(0)
        stand.engage(1)
        stand.add_wheel(("back", 2))
        self.assertEqual(stand.mark(), 1)
        stand.release(1)
        stand.drop_wheel(0)
        stand.back(1)
        self.assertEqual((stand.engaged(), stand.rig()[1]), ((1,), (("back", 2),)))


class MainPromiseTest(StandTest):
    def test_each_turn_moves_along_the_only_least_course(self):
        many = 0
        for at, box in enumerate(startable()):
            stream = numbers(at + 700)
            stand, model = Stand(box), Model(box)
            for _ in range(50):
                name, *arguments = one_call(stream, model)
                before = stand.angles()
                loaded = stand.rig(), stand.engaged(), stand.burdens()
                result = self.calls(stand, model, name, *arguments)
                if name == "turn" and result is None and arguments[0]:
                    many += 1
                    grown = [self.is_fraction(new) - self.is_fraction(old) for old, new in zip(before, stand.angles())]
                    courses, idle = face_of(*loaded)
                    self.assertTrue(all(not any(drift) for drift in idle))
                    for course in courses:
                        self.assertEqual(grown, [Fraction(arguments[0] * entry, course[0]) for entry in course])
                    self.assertEqual(load_of(loaded[2], grown), arguments[0] * least_in(*loaded))
                self.assertNotEqual(stand.state(), "barred")
        self.assertGreater(many, 150)


if __name__ == "__main__":
    unittest.main()
