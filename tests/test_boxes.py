"""Points 4 and 5: boxes, engaged sets, equations."""

import unittest
from itertools import combinations, permutations, product

from planetbox.boxes import equation, is_box, is_engaged
from planetbox.errors import InvalidBox, InvalidPart
from tests.support import NEVER, ODD_VALUES, PLANET, SAMPLES, WRONG_BOXES, BoxTest
from tests.support import nodes, part_count, replaced, row_of, wrong_engaged

GEARS = (("mesh", 0, 20, 1, 40), ("inner", 2, 15, 1, 60), ("planet", 2, 30, 0, 70, 1))
DEVICES = (("clutch", 0, 2), ("brake", 1))
VARIED = (3, GEARS, DEVICES)


class IsBoxTest(BoxTest):
    def accepts(self, value):
        self.assertIs(is_box(value), True, value)

    def rejects(self, value):
        before = repr(value)
        self.assertIs(is_box(value), False, value)
        self.assertEqual(repr(value), before)

    def test_samples(self):
        for box in (*SAMPLES.values(), VARIED):
            self.accepts(box)

    def test_other_values(self):
        for value in (*WRONG_BOXES, *ODD_VALUES, *NEVER, (0,), (0, 1), 3, -3):
            self.rejects(value)

    def test_number_of_shafts(self):
        for shafts in range(-3, 14):
            self.assertIs(is_box((shafts, (), ())), 2 <= shafts <= 8)
        self.rejects((10**30, (), ()))

    def test_number_of_gears(self):
        for many in range(10):
            self.assertIs(is_box((2, (("mesh", 0, 20, 1, 40),) * many, ())), many <= 6)
        for gear in GEARS:
            self.accepts((3, (gear,) * 6, ()))
            self.rejects((3, (gear,) * 7, ()))

    def test_number_of_devices(self):
        for many in range(12):
            self.assertIs(is_box((2, (), (("brake", 1),) * many)), many <= 8)
        for device in DEVICES:
            self.accepts((3, (), (device,) * 8))
            self.rejects((3, (), (device,) * 9))

    def test_gears_and_devices_together(self):
        self.accepts((3, (GEARS[0],) * 6, (DEVICES[0],) * 8))
        self.rejects((3, (GEARS[0],) * 7, (DEVICES[0],) * 8))
        self.rejects((3, (GEARS[0],) * 6, (DEVICES[0],) * 9))

    def test_numbers_of_teeth(self):
        for gear in GEARS:
            for at in (2, 4):
                for teeth in (-20, -6, 0, 1, 5, 6, 7, 100, 199, 200, 201, 1000, 10**30):
                    box = (3, (replaced(gear, (at,), teeth),), ())
                    self.assertIs(is_box(box), 6 <= teeth <= 200, box)

    def test_teeth_in_any_relation(self):
        for first, second in ((6, 200), (200, 6), (50, 50)):
            for word in ("mesh", "inner"):
                self.accepts((2, ((word, 0, first, 1, second),), ()))
            self.accepts((3, (("planet", 0, first, 1, second, 2),), ()))

    def test_shafts_of_two_wheels(self):
        for shafts in (2, 3, 8):
            for word, i, j in product(("mesh", "inner"), range(-1, 10), range(-1, 10)):
                fits = i != j and 0 <= i < shafts and 0 <= j < shafts
                self.assertIs(is_box((shafts, ((word, i, 20, j, 40),), ())), fits)

    def test_shafts_of_planet_sets(self):
        for shafts in (2, 3, 5):
            for sun, ring, carrier in product(range(-1, 6), repeat=3):
                fits = len({sun, ring, carrier}) == 3 and all(0 <= k < shafts for k in (sun, ring, carrier))
                self.assertIs(is_box((shafts, (("planet", sun, 20, ring, 40, carrier),), ())), fits)

    def test_shafts_of_clutches(self):
        for shafts in (2, 3, 8):
            for i, j in product(range(-2, 10), repeat=2):
                self.assertIs(is_box((shafts, (), (("clutch", i, j),))), 0 <= i < j < shafts)

    def test_shafts_of_brakes(self):
        for shafts in (2, 3, 8):
            for i in range(-2, 10):
                self.assertIs(is_box((shafts, (), (("brake", i),))), 0 <= i < shafts)

    def test_shafts_and_teeth_too_many(self):
        self.rejects((4, (), (("clutch", 0, 1, 2),)))
        self.rejects((4, (), (("brake", 0, 1),)))
        self.rejects((4, (("mesh", 0, 20, 1, 40, 2, 60),), ()))
        self.rejects((4, (("inner", 0, 20, 1, 40, 2, 60),), ()))
        self.rejects((4, (("planet", 0, 20, 1, 40, 2, 60),), ()))
        self.rejects((4, (("planet", 0, 20, 1, 40, 2, 60, 3),), ()))

    def test_equal_devices_and_gears(self):
        self.accepts((2, (), (("clutch", 0, 1), ("clutch", 0, 1), ("brake", 0), ("brake", 0))))
        self.accepts((2, (("mesh", 0, 20, 1, 40), ("mesh", 0, 20, 1, 40)), ()))

    def test_gears_and_devices_are_not_one_another(self):
        for device in DEVICES:
            self.rejects((3, (device,), ()))
        for gear in GEARS:
            self.rejects((3, (), (gear,)))

    def test_unknown_words(self):
        for word in ("", "Mesh", "gear", "brake", "clutch", 0, None, True, (), [], ["mesh"], ("mesh",), [["mesh"]]):
            for gear in GEARS:
                self.rejects((3, (replaced(gear, (0,), word),), ()))
        for word in ("", "Brake", "device", "mesh", "planet", 0, None, True, (), [], ["brake"], ("brake",), [["b"]]):
            for device in DEVICES:
                self.rejects((3, (), (replaced(device, (0,), word),)))
        self.rejects((3, (), (("brake", 0, 1),)))
        self.rejects((3, (), (("clutch", 1),)))
        self.rejects((3, (("mesh", 0, 20, 1, 40, 2),), ()))
        self.rejects((3, (("inner", 0, 20, 1, 40, 2),), ()))
        self.rejects((3, (("planet", 0, 20, 1, 40),), ()))

    def test_wrong_values_in_each_place(self):
        for path, node in nodes(VARIED):
            for wrong in NEVER:
                self.rejects(replaced(VARIED, path, wrong))
            if isinstance(node, tuple):
                self.rejects(replaced(VARIED, path, list(node)))

    def test_an_entry_too_many_or_too_few(self):
        for path, node in nodes(VARIED):
            if not isinstance(node, tuple):
                continue
            if len(path) == 1:
                wrongs = [(*node, extra) for extra in (0, None, "x", (), [], (0,), list(node[0]))]
            else:
                wrongs = [(*node, extra) for extra in (0, 1, 2, 30, None, "x", ())]
                wrongs += [node[:-1], node[1:], (), (None, *node), (0, *node)]
            for wrong in wrongs:
                self.rejects(replaced(VARIED, path, wrong))

    def test_wrong_entry_behind_right_ones(self):
        for gear in ((), "mesh", None, ["mesh", 0, 20, 1, 40], ("mesh", 0, 20, 0, 40)):
            self.rejects((3, (*GEARS, gear), DEVICES))
            self.rejects((3, (gear, *GEARS), DEVICES))
        for device in ((), "brake", None, ["brake", 0], ("brake", 3), ("clutch", 1, 1)):
            self.rejects((3, GEARS, (*DEVICES, device)))
            self.rejects((3, GEARS, (device, *DEVICES)))


class IsEngagedTest(BoxTest):
    def test_all_small_tuples(self):
        for many in range(4):
            box = (2, (), (("brake", 1),) * many)
            right = {choice for size in range(many + 1) for choice in combinations(range(many), size)}
            for size in range(5):
                for value in product(range(-1, many + 1), repeat=size):
                    self.assertIs(is_engaged(box, value), value in right, (box, value))

    def test_all_sets_of_eight_devices(self):
        box = (2, (), (("clutch", 0, 1),) * 8)
        for size in range(9):
            for value in combinations(range(8), size):
                self.assertIs(is_engaged(box, value), True)
        for value in permutations(range(4)):
            self.assertIs(is_engaged(box, value), value == (0, 1, 2, 3))
        self.assertIs(is_engaged(box, tuple(range(9))), False)
        self.assertIs(is_engaged(box, (7, 8)), False)

    def test_other_values(self):
        for box in SAMPLES.values():
            for wrong in wrong_engaged(box):
                before = repr(wrong)
                self.assertIs(is_engaged(box, wrong), False, (box, wrong))
                self.assertEqual(repr(wrong), before)

    def test_numbers_of_devices_not_of_parts(self):
        self.assertIs(is_engaged(PLANET, (2,)), False)
        self.assertIs(is_engaged((2, (), (("clutch", 0, 1),)), (0,)), True)
        self.assertIs(is_engaged((2, (), ()), ()), True)

    def test_wrong_boxes(self):
        for wrong in WRONG_BOXES:
            for value in ((), (0,), None, [0]):
                self.fails(InvalidBox, is_engaged, wrong, value)


class EquationTest(BoxTest):
    def test_each_kind(self):
        box = (4, (("mesh", 3, 20, 1, 40), ("inner", 2, 15, 0, 60), ("planet", 3, 30, 0, 70, 1)), DEVICES)
        rows = [equation(box, part) for part in range(5)]
        self.assertEqual(rows, [(0, 40, 0, 20), (-60, 0, 15, 0), (70, -100, 0, 30), (1, 0, -1, 0), (0, 1, 0, 0)])

    def test_both_orders_of_the_shafts(self):
        self.assertEqual(equation((2, (("mesh", 0, 20, 1, 40),), ()), 0), (20, 40))
        self.assertEqual(equation((2, (("mesh", 1, 20, 0, 40),), ()), 0), (40, 20))
        self.assertEqual(equation((2, (("inner", 0, 20, 1, 40),), ()), 0), (20, -40))
        self.assertEqual(equation((2, (("inner", 1, 20, 0, 40),), ()), 0), (-40, 20))

    def test_every_part_of_every_sample(self):
        for box in (*SAMPLES.values(), VARIED):
            for part in range(part_count(box)):
                row = equation(box, part)
                self.is_integer_tuple(row, box[0])
                self.assertEqual(row, row_of(box, part))

    def test_wrong_parts(self):
        for box in (*SAMPLES.values(), VARIED):
            many = part_count(box)
            for part in (*ODD_VALUES, many, many + 1, -many, "1", (), (0, 1)):
                self.fails_with(InvalidPart, "part", part, equation, box, part)

    def test_wrong_boxes_come_first(self):
        for wrong in WRONG_BOXES:
            for part in (0, -1, True, None, [0]):
                self.fails(InvalidBox, equation, wrong, part)


if __name__ == "__main__":
    unittest.main()
