"""The examples of the document, word for word."""

import doctest
import importlib
import re
import unittest

EXAMPLES = """
>>> from planetbox.boxes import is_box
>>> is_box((2, (), (('clutch', 1, 0),)))
False

>>> from planetbox.boxes import is_engaged
>>> box = (3, (('planet', 0, 30, 1, 70, 2),), (('brake', 1), ('clutch', 0, 2)))
>>> is_engaged(box, (1, 0))
False

>>> from planetbox.boxes import equation
>>> box = (3, (('planet', 0, 30, 1, 70, 2),), (('brake', 1), ('clutch', 0, 2)))
>>> equation(box, 0)
(30, 70, -100)

>>> from planetbox.motions import is_motion
>>> box = (3, (('planet', 0, 30, 1, 70, 2),), (('brake', 1), ('clutch', 0, 2)))
>>> is_motion(box, (0,), (20, 0, 6))
True

>>> from planetbox.motions import freedom
>>> box = (3, (('planet', 0, 30, 1, 70, 2),), (('brake', 1), ('clutch', 0, 2)))
>>> freedom(box, ())
2

>>> from planetbox.kinds import kind
>>> box = (3, (('planet', 0, 30, 1, 70, 2),), (('brake', 1), ('clutch', 0, 2)))
>>> [kind(box, ()), kind(box, (0,)), kind(box, (0, 1))]
['loose', 'driven', 'held']

>>> from planetbox.kinds import motion
>>> box = (3, (('planet', 0, 30, 1, 70, 2),), (('brake', 1), ('clutch', 0, 2)))
>>> motion(box, (0,))
(10, 0, 3)

>>> from planetbox.kinds import two_motions
>>> box = (3, (('planet', 0, 30, 1, 70, 2),), (('brake', 1), ('clutch', 0, 2)))
>>> two_motions(box, ())[1][0]
0

>>> from planetbox.weights import weighted_sum
>>> box = (3, (('planet', 0, 30, 1, 70, 2),), (('brake', 1), ('clutch', 0, 2)))
>>> weighted_sum(box, (0, 1), (1, -70, -100))
(-70, 0, 0)

>>> from planetbox.weights import held_weights
>>> box = (3, (('planet', 0, 30, 1, 70, 2),), (('brake', 1), ('clutch', 0, 2)))
>>> len(held_weights(box, (0, 1)))
3

>>> from planetbox.weights import shaft_weights
>>> box = (3, (('planet', 0, 30, 1, 70, 2),), (('brake', 1), ('clutch', 0, 2)))
>>> len(shaft_weights(box, (0,), 2))
3

>>> from planetbox.full import needless
>>> box = (2, (), (('clutch', 0, 1), ('brake', 0), ('brake', 1)))
>>> needless(box, (0, 1, 2))
(0, 1, 2)

>>> from planetbox.full import is_full
>>> box = (3, (('planet', 0, 30, 1, 70, 2),), (('brake', 1), ('clutch', 0, 2)))
>>> is_full(box, (1,))
True

>>> from planetbox.full import full_sets
>>> box = (3, (('planet', 0, 30, 1, 70, 2),), (('brake', 1), ('clutch', 0, 2)))
>>> full_sets(box)
[(0,), (1,)]

>>> from planetbox.full import roles
>>> box = (3, (('planet', 0, 30, 1, 70, 2),), (('brake', 1), ('clutch', 0, 2)))
>>> roles(box)
['sometimes', 'sometimes']

>>> from planetbox.freed import freed_motion
>>> box = (3, (('planet', 0, 30, 1, 70, 2),), (('brake', 1), ('clutch', 0, 2)))
>>> freed_motion(box, (0,), 0)
(0, 10, 7)

>>> from planetbox.freed import loads
>>> box = (3, (('planet', 0, 30, 1, 70, 2),), (('brake', 1), ('clutch', 0, 2)))
>>> loads(box, (0,), 2)
[0]

>>> from planetbox.shifts import swaps
>>> box = (3, (('planet', 0, 30, 1, 70, 2),), (('brake', 1), ('clutch', 0, 2)))
>>> swaps(box, (0,))
[(1,)]

>>> from planetbox.shifts import shift
>>> box = (3, (('planet', 0, 30, 1, 70, 2),), (('brake', 1), ('clutch', 0, 2)))
>>> shift(box, (0,), (1,))
[(0,), (1,)]

>>> from planetbox.extending import complete
>>> box = (3, (('planet', 0, 30, 1, 70, 2),), (('brake', 1), ('clutch', 0, 2)))
>>> complete(box, ())
(0,)

>>> from planetbox.extending import thin
>>> box = (2, (), (('clutch', 0, 1), ('brake', 1)))
>>> thin(box, (0,))
(0,)

>>> from planetbox.prices import cheapest
>>> box = (3, (('planet', 0, 30, 1, 70, 2),), (('brake', 1), ('clutch', 0, 2)))
>>> cheapest(box, (5, 3))
(1,)

>>> from planetbox.prices import cheaper_swap
>>> box = (3, (('planet', 0, 30, 1, 70, 2),), (('brake', 1), ('clutch', 0, 2)))
>>> cheaper_swap(box, (0,), (5, 3))
(1,)

>>> from planetbox.prices import falling_shift
>>> box = (3, (('planet', 0, 30, 1, 70, 2),), (('brake', 1), ('clutch', 0, 2)))
>>> falling_shift(box, (0,), (5, 3))
[(0,), (1,)]

>>> from planetbox.speeds import speed
>>> box = (3, (('planet', 0, 30, 1, 70, 2),), (('brake', 1), ('clutch', 0, 2)))
>>> speed(box, (0,), 2)
(3, 10)

>>> from planetbox.speeds import speeds
>>> box = (3, (('planet', 0, 30, 1, 70, 2),), (('brake', 1), ('clutch', 0, 2)))
>>> speeds(box)
[((3, 10), [(0,)]), ((1, 1), [(1,)])]

>>> from planetbox.turning import angles
>>> box = (3, (('planet', 0, 30, 1, 70, 2),), (('brake', 1), ('clutch', 0, 2)))
>>> angles(box, (0,), 5)
((5, 1), (0, 1), (3, 2))

>>> from planetbox.turning import first_return
>>> box = (3, (('planet', 0, 30, 1, 70, 2),), (('brake', 1), ('clutch', 0, 2)))
>>> first_return(box, (0,))
10

>>> from planetbox.building import reversed_box
>>> box = (3, (('planet', 0, 30, 1, 70, 2),), (('brake', 1), ('clutch', 0, 2)))
>>> reversed_box(box)
(3, (('planet', 2, 30, 1, 70, 0),), (('brake', 1), ('clutch', 0, 2)))

>>> from planetbox.building import joined
>>> joined((2, (('mesh', 0, 20, 1, 40),), ()), (2, (), (('clutch', 0, 1),)))
(3, (('mesh', 0, 20, 1, 40),), (('clutch', 1, 2),))

>>> from planetbox.workspace import Workspace
>>> box = (3, (('planet', 0, 30, 1, 70, 2),), (('brake', 1), ('clutch', 0, 2)))
>>> space = Workspace(box)
>>> space.engage(0)
>>> space.turn(5)
>>> space.swap(0, 1)
>>> space.turn(1)
>>> space.angles()
((6, 1), (1, 1), (5, 2))

>>> from planetbox.checker import check
>>> box = (3, (('planet', 0, 30, 1, 70, 2),), (('brake', 1), ('clutch', 0, 2)))
>>> check(('held', box, (0, 1), (1, -70, -100)))
('right',)

>>> from planetbox.rigs import are_burdens, is_rig, wheel_row
>>> box = (3, (('planet', 0, 30, 1, 70, 2),), (('brake', 1), ('clutch', 0, 2)))
>>> rig = (box, (('back', 1), ('over', 0, 1)))
>>> [is_rig(rig), is_rig((box, (('over', 1, 1),))), wheel_row(rig, 1), are_burdens(rig, (0, 1))]
[True, False, (1, -1, 0), True]

>>> from planetbox.courses import is_course, is_drift, wheel_values, work
>>> box = (3, (('planet', 0, 30, 1, 70, 2),), (('brake', 1), ('clutch', 0, 2)))
>>> rig = (box, (('back', 1), ('over', 0, 1)))
>>> [is_course(rig, (), (20, 0, 6)), is_course(rig, (1,), (20, 0, 6)), is_drift((box, ()), (), (0, -10, -7))]
[True, False, True]
>>> [work(rig, (), (0, 1), (20, 0, 6)), wheel_values(rig, (), (20, 0, 6))]
[(3, 10), (0, 20)]

>>> from planetbox.torques import are_bars, are_right, pull, torque_sum
>>> box = (3, (('planet', 0, 30, 1, 70, 2),), (('brake', 1), ('clutch', 0, 2)))
>>> rig = (box, (('back', 1), ('over', 0, 1)))
>>> own = (100, (-1, 0, 0), (70, 0))
>>> [torque_sum(rig, (), own), are_right(rig, (), (0, 1), own), pull(rig, (), own)]
[(-30, 0, 100), True, (3, 10)]
>>> are_bars((box, (('over', 1, 0),)), (0,), (1, (0, -1, 0), (1,)))
True

>>> from planetbox.states import bars_of, least_work, state_of
>>> box = (3, (('planet', 0, 30, 1, 70, 2),), (('brake', 1), ('clutch', 0, 2)))
>>> rig = (box, (('back', 1),))
>>> [state_of(rig, (), (0, 1)), least_work(rig, (), (0, 1)), least_work(rig, (1,), (0, 1)), bars_of(rig, ())]
['carried', (3, 10), (1, 1), None]
>>> [state_of((box, ()), (), (0, 1)), state_of(rig, (0, 1), (0, 1))]
['slipping', 'barred']

>>> from planetbox.firm import firm_torques, firm_wheels
>>> box = (3, (('planet', 0, 30, 1, 70, 2),), (('brake', 1), ('clutch', 0, 2)))
>>> rig = (box, (('back', 1), ('over', 0, 1)))
>>> [firm_wheels(rig, (), (0, 1)), firm_wheels(rig, (1,), (0, 1)), firm_torques(rig, (), (0, 1), 1)]
[(0,), (1,), None]

>>> from planetbox.settled import is_settled, locked_box, only_course
>>> box = (3, (('planet', 0, 30, 1, 70, 2),), (('brake', 1), ('clutch', 0, 2)))
>>> rig = (box, (('back', 1), ('over', 0, 1)))
>>> [is_settled(rig, (), (0, 1), 1), is_settled(rig, (), (0, 0), 1), only_course(rig, (), (0, 1))]
[True, False, (10, 0, 3)]
>>> locked_box(rig, (), (0, 1))
(3, (('planet', 0, 30, 1, 70, 2),), (('brake', 1),))

>>> from planetbox.sure import cheapest_sure, sure_speed
>>> box = (3, (('planet', 0, 30, 1, 70, 2),), (('brake', 1), ('clutch', 0, 2)))
>>> rig = (box, (('back', 1),))
>>> [sure_speed(rig, (), 2), cheapest_sure(rig, 2, (1, 2), (5, 3)), cheapest_sure(rig, 2, (3, 1), (5, 3))]
[(3, 10), (1,), None]

>>> from planetbox.rising import pieces, work_at
>>> box = (3, (('planet', 0, 30, 1, 70, 2),), (('brake', 1), ('clutch', 0, 2)))
>>> rig = (box, (('back', 1), ('over', 0, 1)))
>>> [(first, last) for first, last, course in pieces(rig, (), (0, 1), 1)]
[((-100, 1), (-7, 10)), ((-7, 10), (100, 1))]
>>> work_at(rig, (), (0, 1), 1, (-1, 1))
(0, 1)

>>> from planetbox.stand import Stand
>>> stand = Stand((3, (('planet', 0, 30, 1, 70, 2),), (('brake', 1), ('clutch', 0, 2))))
>>> stand.lay(2, 1)
>>> [stand.state(), stand.add_wheel(('back', 1)), stand.state(), stand.firm()]
['slipping', 0, 'carried', (0,)]
>>> stand.turn(10)
>>> stand.engage(1)
>>> stand.turn(1)
>>> [stand.angles(), stand.firm(), stand.leads(), stand.spent()]
[((11, 1), (1, 1), (4, 1)), (), ((1, 1),), (4, 1)]

>>> from planetbox.shifting import load_shift, reached_sets
>>> box = (3, (('planet', 0, 30, 1, 70, 2),), (('brake', 1), ('clutch', 0, 2)))
>>> rig = (box, (('back', 1),))
>>> [load_shift(rig, (0, 1), (0,), (1,)), reached_sets(rig, (0, 1), (1,)), load_shift((box, ()), (0, 1), (0,), (1,))]
[[(0,), (), (1,)], [(), (0,), (1,)], None]

>>> from planetbox.records import judge
>>> box = (3, (('planet', 0, 30, 1, 70, 2),), (('brake', 1), ('clutch', 0, 2)))
>>> rig = (box, (('back', 1),))
>>> own = (100, (-1, 0, 0), (70,))
>>> [judge(('carried', rig, (), (0, 1), (10, 0, 3), own)), judge(('carried', rig, (1,), (0, 1), (1, 1, 1), own))]
[('right',), ('wrong', 4)]
"""

FUNCTIONS = {
    "boxes": ["is_box", "is_engaged", "equation"],
    "motions": ["is_motion", "freedom"],
    "kinds": ["kind", "motion", "two_motions"],
    "weights": ["weighted_sum", "held_weights", "shaft_weights"],
    "full": ["needless", "is_full", "full_sets", "roles"],
    "freed": ["freed_motion", "loads"],
    "shifts": ["swaps", "shift"],
    "extending": ["complete", "thin"],
    "prices": ["cheapest", "cheaper_swap", "falling_shift"],
    "speeds": ["speed", "speeds"],
    "turning": ["angles", "first_return"],
    "building": ["reversed_box", "joined"],
    "checker": ["check"],
    "rigs": ["is_rig", "wheel_row", "are_burdens"],
    "courses": ["is_course", "is_drift", "work", "wheel_values"],
    "torques": ["torque_sum", "are_right", "pull", "are_bars"],
    "states": ["state_of", "bars_of", "slip_of", "carry_of", "least_work"],
    "firm": ["firm_wheels", "firm_torques", "slack_course", "parted_pair"],
    "settled": ["is_settled", "settling_weights", "two_courses", "locked_box", "only_course"],
    "sure": ["sure_speed", "cheapest_sure"],
    "rising": ["pieces", "work_at"],
    "shifting": ["load_shift", "reached_sets"],
    "records": ["judge"],
}

CLASSES = {"workspace": ["Workspace"], "stand": ["Stand"]}

# The document has no examples of these.
WITHOUT_EXAMPLE = {"slip_of", "carry_of", "slack_course", "parted_pair", "settling_weights", "two_courses"}


class ExamplesTest(unittest.TestCase):
    def test_each_example(self):
        for block in EXAMPLES.strip().split("\n\n"):
            with self.subTest(block=block):
                example = doctest.DocTestParser().get_doctest(block + "\n", {}, "example", None, 0)
                said = []
                outcome = doctest.DocTestRunner().run(example, out=said.append)
                self.assertEqual(outcome.failed, 0, "".join(said))
                self.assertGreater(outcome.attempted, 1)

    def test_each_name_has_an_example(self):
        found = {}
        for file, names in re.findall(r"from planetbox.(\w+) import (.*)", EXAMPLES):
            found.setdefault(file, []).extend(names.split(", "))
        expected = {file: sorted({*names} - WITHOUT_EXAMPLE) for file, names in (FUNCTIONS | CLASSES).items()}
        self.assertEqual({file: sorted(names) for file, names in found.items()}, expected)


class InterfaceTest(unittest.TestCase):
    def test_each_name_is_defined_in_its_file(self):
        for file, names in (FUNCTIONS | CLASSES).items():
            module = importlib.import_module(f"planetbox.{file}")
            for name in names:
                self.assertEqual(getattr(module, name).__module__, f"planetbox.{file}", name)


if __name__ == "__main__":
    unittest.main()
