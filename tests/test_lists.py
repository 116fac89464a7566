"""Point 2: returned lists, and the lists in them, are new ones, and no function modifies its arguments."""

import importlib
import unittest

from planetbox.states import bars_of, carry_of
from tests.load_support import let_wheels, spread, state_in
from tests.rig_support import is_course_of, some_burdens, some_motions
from tests.support import CHAIN, PLANET, SAMPLES, BoxTest, engaged_sets, full_sets_of, kind_of
from tests.test_checker import own_certificate
from tests.test_examples import FUNCTIONS

BOXES = (
    PLANET,
    CHAIN,
    SAMPLES["equal devices"],
    SAMPLES["driven by its gears"],
    SAMPLES["no full set"],
    SAMPLES["two planet sets"],
)


def box_calls(box):
    """For each function of a box its name, and the arguments of several calls behind the box."""
    sets = engaged_sets(box)[:20]
    full = full_sets_of(box)[:6]
    driven = [engaged for engaged in sets if kind_of(box, engaged) == "driven"]
    many = len(box[2])
    prices = [(0,) * many, tuple(range(many)), tuple(range(many, 0, -1))]
    zeros = (0,) * (len(box[1]) + many)
    return {
        "is_box": [()],
        "is_engaged": [(engaged,) for engaged in sets],
        "equation": [(part,) for part in range(len(zeros))],
        "is_motion": [(engaged, (0,) * box[0]) for engaged in sets],
        "freedom": [(engaged,) for engaged in sets],
        "kind": [(engaged,) for engaged in sets],
        "motion": [(engaged,) for engaged in driven],
        "two_motions": [(engaged,) for engaged in sets if kind_of(box, engaged) == "loose"],
        "weighted_sum": [(engaged, zeros) for engaged in sets],
        "held_weights": [(engaged,) for engaged in engaged_sets(box) if kind_of(box, engaged) == "held"],
        "shaft_weights": [(engaged, box[0] - 1) for engaged in driven],
        "needless": [(engaged,) for engaged in sets],
        "is_full": [(engaged,) for engaged in sets],
        "full_sets": [()],
        "roles": [()],
        "freed_motion": [(engaged, device) for engaged in full for device in engaged],
        "loads": [(engaged, shaft) for engaged in full for shaft in range(1, box[0])],
        "swaps": [(engaged,) for engaged in full],
        "shift": [(first, second) for first in full for second in full],
        "complete": [(engaged,) for engaged in sets],
        "thin": [(engaged,) for engaged in driven],
        "cheapest": [(row,) for row in prices],
        "cheaper_swap": [(engaged, row) for engaged in full for row in prices],
        "falling_shift": [(engaged, row) for engaged in full for row in prices],
        "speed": [(engaged, shaft) for engaged in driven for shaft in range(box[0])],
        "speeds": [()],
        "angles": [(engaged, 7) for engaged in driven],
        "first_return": [(engaged,) for engaged in driven],
        "reversed_box": [()],
        "joined": [((2, (), ()),)] if box[0] < 8 else [],
    }


def rig_calls(rig):
    """For each function of a rig its name, and the arguments of several calls behind the rig."""
    box = rig[0]
    sets = engaged_sets(box)[:20]
    motions = [(engaged, speeds) for engaged in sets for speeds in some_motions(box, engaged)[::9]]
    courses = [(engaged, speeds) for engaged, speeds in motions if is_course_of(rig, engaged, speeds)]
    burdens = some_burdens(rig)
    return {
        "wheel_row": [(wheel,) for wheel in range(len(rig[1]))],
        "are_burdens": [(row,) for row in burdens],
        "is_course": motions,
        "is_drift": motions,
        "wheel_values": courses,
        "work": [(engaged, row, course) for engaged, course in courses for row in burdens],
    }


def loaded_calls(rig):
    """The same for each function of a rig, an engaged set and burdens."""
    sets = engaged_sets(rig[0])[:20]
    own = [(engaged, row) for engaged in sets for row in some_burdens(rig)]
    carried = spread([case for case in own if state_in(rig, *case) == "carried"], 40)
    torques = [(*case, carry_of(rig, *case)[1]) for case in carried]
    bars = [(engaged, bars_of(rig, engaged)) for engaged in sets]
    found = {"bars_of": [(engaged,) for engaged in sets], "are_right": torques}
    found["are_bars"] = [case for case in bars if case[1] is not None]
    for name in ("torque_sum", "pull"):
        found[name] = [(engaged, value) for engaged, _, value in torques]
    for name in ("state_of", "slip_of", "carry_of", "least_work"):
        found[name] = own
    for name in ("firm_wheels", "parted_pair", "locked_box", "only_course"):
        found[name] = carried
    for name in ("firm_torques", "slack_course"):
        found[name] = [(*case, wheel) for case in carried for wheel in range(len(rig[1]))]
    for name in ("is_settled", "settling_weights", "two_courses"):
        found[name] = [(*case, shaft) for case in carried for shaft in range(1, rig[0][0])]
    found["work_at"] = [(*case, 1, (case[1][0], 1)) for case in carried]
    return found | later_calls(rig, own, carried)


def later_calls(rig, own, carried):
    """The same for the functions of stages 20 to 24, by the sets and burdens of the rig and those that are carried."""
    shafts, many = range(1, rig[0][0]), len(rig[0][2])
    sets = sorted({engaged for engaged, _ in own})
    found = {"sure_speed": [(engaged, shaft) for engaged in sets for shaft in shafts]}
    found["cheapest_sure"] = [(1, speed, prices) for speed in ((0, 1), (1, 2)) for prices in ((0,) * many, (7,) * many)]
    found["pieces"] = [(*case, shaft) for case in spread(own, 30) for shaft in shafts]
    by_burdens = {}
    for engaged, row in carried:
        by_burdens.setdefault(row, []).append(engaged)
    found["reached_sets"] = [(row, one) for row, some in by_burdens.items() for one in some[:2]]
    pairs = [(row, one, other) for row, some in by_burdens.items() for one in some[:2] for other in some[-2:]]
    return found | {"load_shift": pairs}


def some_records(rig):
    """Some records of the rig, right and wrong ones, with lists in them, too."""
    sets = engaged_sets(rig[0])[:20]
    found = [("barred", rig, engaged, bars_of(rig, engaged)) for engaged in sets]
    for engaged in sets:
        for row in some_burdens(rig)[:3]:
            found.append(("carried", rig, engaged, row, *(carry_of(rig, engaged, row) or ([[1]], [1, [2], ()]))))
    return found


def call_table(box):
    """For each function its name, and all arguments of several calls."""
    found = {name: [(box, *others) for others in calls] for name, calls in box_calls(box).items()}
    rig = (box, let_wheels(box, (), 3, 3))
    rig_table = rig_calls(rig) | loaded_calls(rig)
    found |= {name: [(rig, *others) for others in calls] for name, calls in rig_table.items()}
    found["is_rig"] = [(rig,)]
    found["judge"] = [(record,) for record in some_records(rig)]
    found["check"] = [(own_certificate(box, engaged),) for engaged in engaged_sets(box)[:20]]
    found["check"] += [(("shift", box, full_sets_of(box)[:2]),), (("shift", box, [[], [()]]),)]
    return found


def function_table():
    """The functions by their names."""
    return {
        name: getattr(importlib.import_module(f"planetbox.{file}"), name)
        for file, names in FUNCTIONS.items()
        for name in names
    }


def spoil(value):
    """Change each list in the value."""
    if isinstance(value, (list, tuple)):
        for entry in value:
            spoil(entry)
    if isinstance(value, list):
        value.reverse()
        value.append("spoilt")
        value[0] = None


def lists_in(value):
    """All lists in the value, itself, too."""
    found = [value] if isinstance(value, list) else []
    if isinstance(value, (list, tuple)):
        for entry in value:
            found += lists_in(entry)
    return found


class ListsTest(BoxTest):
    def all_results(self):
        """The results of all functions for all calls, by the name of the function and the number of the call."""
        functions = function_table()
        found = {}
        for at, box in enumerate(BOXES):
            for name, calls in call_table(box).items():
                for number, arguments in enumerate(calls):
                    before = repr(arguments)
                    found[name, at, number] = functions[name](*arguments)
                    self.assertEqual(repr(arguments), before, name)
        return found

    def test_every_function_is_called(self):
        called = set()
        for box in BOXES:
            called |= {name for name, calls in call_table(box).items() if calls}
        self.assertEqual(called, set(function_table()))

    def test_changed_lists_change_nothing_else(self):
        kept = self.all_results()
        before = {key: repr(value) for key, value in kept.items()}
        returning = set()
        for key, value in self.all_results().items():
            if isinstance(value, list):
                returning.add(key[0])
                spoil(value)
                self.assertEqual(repr(kept[key]), before[key])
        expected = {"full_sets", "roles", "loads", "swaps", "shift", "falling_shift", "speeds"}
        self.assertEqual(returning, expected | {"pieces", "load_shift", "reached_sets"})
        again = self.all_results()
        self.assertEqual({key: repr(value) for key, value in again.items()}, before)
        self.assertEqual({key: repr(value) for key, value in kept.items()}, before)

    def test_no_list_is_returned_twice(self):
        lists = [one for value in self.all_results().values() for one in lists_in(value)]
        lists += [one for value in self.all_results().values() for one in lists_in(value)]
        self.assertEqual(len({id(one) for one in lists}), len(lists))
        self.assertGreater(len(lists), 100)

    def test_later_calls_change_nothing(self):
        functions = function_table()
        for name in ("full_sets", "roles", "speeds"):
            first = functions[name](PLANET)
            kept = repr(first)
            self.all_results()
            self.assertEqual(repr(first), kept)


if __name__ == "__main__":
    unittest.main()
