"""Point 19: rigs, and burdens as point 20 words them."""

import unittest
from itertools import product

from planetbox.rigs import are_burdens, is_rig, wheel_row
from planetbox.wrongs import InvalidRig, InvalidWheel
from tests.rig_support import LEVER, RIG, RIGS, WRONG_RIGS, row_of_wheel, some_burdens
from tests.support import CHAIN, NEVER, ODD_VALUES, PLANET, SAMPLES, BoxTest, nodes, replaced, wrong_rows

VARIED = (LEVER, (("over", 0, 2), ("back", 3), ("over", 3, 1), ("back", 0)))


class IsRigTest(BoxTest):
    def accepts(self, value):
        self.assertIs(is_rig(value), True, value)

    def rejects(self, value):
        before = repr(value)
        self.assertIs(is_rig(value), False, value)
        self.assertEqual(repr(value), before)

    def test_samples(self):
        for rig in (*RIGS, VARIED):
            self.accepts(rig)
        for box in SAMPLES.values():
            self.accepts((box, ()))

    def test_wrong_values(self):
        for value in (*WRONG_RIGS, *ODD_VALUES, *NEVER, ((),), ((), ()), ("over", 0, 1), (0, 1)):
            self.rejects(value)

    def test_number_of_freewheels(self):
        for many in range(10):
            for wheel in (("over", 0, 1), ("over", 2, 0), ("back", 1)):
                self.assertIs(is_rig((PLANET, (wheel,) * many)), many <= 6)
        self.accepts((PLANET, (("over", 0, 1), ("back", 1)) * 3))
        self.rejects((PLANET, (("over", 0, 1), ("back", 1)) * 3 + (("back", 2),)))

    def test_shafts_of_two(self):
        for shafts in (2, 3, 8):
            for i, j in product(range(-2, 10), repeat=2):
                fits = i != j and 0 <= i < shafts and 0 <= j < shafts
                self.assertIs(is_rig(((shafts, (), ()), (("over", i, j),))), fits)

    def test_shafts_of_one(self):
        for shafts in (2, 3, 8):
            for i in range(-2, 10):
                self.assertIs(is_rig(((shafts, (), ()), (("back", i),))), 0 <= i < shafts)

    def test_great_numbers(self):
        for number in (10**999, -(10**999)):
            self.rejects(((2, (), ()), (("back", number),)))
            self.rejects(((2, (), ()), (("over", 0, number),)))
            self.rejects(((2, (), ()), (("over", number, 0),)))
            self.rejects((number, ()))
            self.rejects((PLANET, number))

    def test_lengths_of_freewheels(self):
        for wheel in ((), ("over",), ("over", 0), ("over", 0, 1, 2), ("back",), ("back", 0, 1), ("back", 0, 0)):
            self.rejects((PLANET, (wheel,)))

    def test_unknown_words(self):
        for word in ("", "Over", "back ", "clutch", "brake", 0, None, True, (), [], ["over"], ("over",), [[]]):
            self.rejects((PLANET, ((word, 0, 1),)))
            self.rejects((PLANET, ((word, 1),)))
        for device in PLANET[2]:
            self.rejects((PLANET, (device,)))
        self.rejects((PLANET, (("over", 1),)))
        self.rejects((PLANET, (("back", 0, 1),)))

    def test_freewheels_are_no_devices(self):
        self.rejects(((3, (), (("over", 0, 1),)), ()))
        self.rejects(((3, (("back", 0),), ()), ()))

    def test_wrong_values_in_each_place(self):
        for path, node in nodes(VARIED):
            for wrong in NEVER:
                self.rejects(replaced(VARIED, path, wrong))
            if isinstance(node, tuple):
                self.rejects(replaced(VARIED, path, list(node)))

    def test_an_entry_too_many_or_too_few(self):
        for path, node in nodes(VARIED):
            if not isinstance(node, tuple):
                continue
            wrongs = [(*node, extra) for extra in (0, 1, None, "x", (), [], (0,), ["back", 0])]
            if path not in ((1,), (0, 1), (0, 2)):
                wrongs += [node[:-1], node[1:], (), (None, *node), (0, *node)]
            for wrong in wrongs:
                self.rejects(replaced(VARIED, path, wrong))

    def test_a_wrong_one_among_right_ones(self):
        wheels = VARIED[1]
        for wrong in ((), "back", None, ["back", 1], ("over", 1, 1), ("back", 4), ("over", 4, 0), ("brake", 0)):
            self.rejects((LEVER, (*wheels, wrong)))
            self.rejects((LEVER, (wrong, *wheels)))
            self.rejects((LEVER, (*wheels[:2], wrong, *wheels[2:])))

    def test_the_box_must_be_a_box(self):
        self.rejects(((2, (), (("clutch", 1, 0),)), ()))
        self.rejects(((9, (), ()), ()))
        self.rejects(((3, (), (("brake", 0),) * 9), (("back", 1),)))


class WheelRowTest(BoxTest):
    def test_every_sample(self):
        for rig in (*RIGS, VARIED):
            for wheel in range(len(rig[1])):
                row = wheel_row(rig, wheel)
                self.is_integer_tuple(row, rig[0][0])
                self.assertEqual(row, row_of_wheel(rig, wheel))

    def test_by_hand(self):
        rows = [wheel_row(VARIED, wheel) for wheel in range(4)]
        self.assertEqual(rows, [(1, 0, -1, 0), (0, 0, 0, 1), (0, -1, 0, 1), (1, 0, 0, 0)])
        self.assertEqual(wheel_row((CHAIN, (("over", 7, 0),)), 0), (-1, 0, 0, 0, 0, 0, 0, 1))
        self.assertEqual(wheel_row(((2, (), ()), (("back", 1),) * 6), 5), (0, 1))

    def test_all_pairs_of_shafts(self):
        for i, j in product(range(4), repeat=2):
            if i != j:
                row = wheel_row((LEVER, (("back", 0), ("over", i, j))), 1)
                self.assertEqual((row[i], row[j], sum(row), sum(map(abs, row))), (1, -1, 0, 2))

    def test_wrong_wheels(self):
        for rig in (*RIGS, VARIED):
            many = len(rig[1])
            odd = [value for value in ODD_VALUES if type(value) is not int or not 0 <= value < many]
            for wrong in (*odd, many, many + 1, -many - 1, "1", (), (0, 1), [1], ("back", 1), 10**999):
                self.fails_with(InvalidWheel, "wheel", wrong, wheel_row, rig, wrong)

    def test_wrong_rigs_come_first(self):
        for wrong in (*WRONG_RIGS, *ODD_VALUES):
            for wheel in (0, 1, -1, None, True, [0]):
                self.fails(InvalidRig, wheel_row, wrong, wheel)

    def test_same_again(self):
        self.gives_the_same_again(wheel_row, [(rig, wheel) for rig in RIGS for wheel in range(len(rig[1]))])


class BurdensTest(BoxTest):
    def test_right(self):
        for rig in RIGS:
            for burdens in some_burdens(rig):
                self.assertIs(are_burdens(rig, burdens), True, burdens)

    def test_wrong(self):
        for rig in RIGS:
            for wrong in wrong_rows(rig[0][0] - 1, -100, 100):
                before = repr(wrong)
                self.assertIs(are_burdens(rig, wrong), False, wrong)
                self.assertEqual(repr(wrong), before)

    def test_limits(self):
        for burden in (-1000, -101, -100, -99, -1, 0, 1, 99, 100, 101, 1000, 10**999, -(10**999)):
            self.assertIs(are_burdens(RIG, (burden, 0)), -100 <= burden <= 100)
            self.assertIs(are_burdens(RIG, (-100, burden)), -100 <= burden <= 100)

    def test_lengths(self):
        for rig in RIGS:
            for many in range(10):
                self.assertIs(are_burdens(rig, (1,) * many), many == rig[0][0] - 1)
                self.assertIs(are_burdens(rig, [1] * many), False)

    def test_bools(self):
        for wrong in ((True, 0), (0, False), (False, False), (True, True)):
            self.assertIs(are_burdens(RIG, wrong), False)

    def test_wrong_rigs(self):
        for wrong in (*WRONG_RIGS, *ODD_VALUES):
            for burdens in ((0, 1), (), None, [0, 1], (101, 0)):
                self.fails(InvalidRig, are_burdens, wrong, burdens)


if __name__ == "__main__":
    unittest.main()
