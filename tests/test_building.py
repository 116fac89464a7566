"""Point 16: boxes reversed and joined."""

import unittest

from planetbox.boxes import is_box
from planetbox.building import joined, reversed_box
from planetbox.errors import InvalidBox, TooLarge
from tests.support import CHAIN, ODD_VALUES, PLANET, SAMPLES, WRONG_BOXES, BoxTest, copied, part_count, row_of

EVERYTHING = (
    5,
    (("mesh", 0, 20, 3, 40), ("inner", 4, 15, 1, 60), ("planet", 2, 30, 0, 70, 4), ("mesh", 3, 11, 1, 12)),
    (("clutch", 0, 1), ("brake", 4), ("clutch", 1, 4), ("clutch", 0, 4), ("brake", 0), ("brake", 2), ("clutch", 2, 3)),
)
BOXES = (*SAMPLES.values(), EVERYTHING)


def bare(shafts, gears=0, devices=0):
    """A box with so many shafts, gears and devices."""
    return (shafts, (("mesh", 0, 20, 1, 40),) * gears, (("clutch", 0, 1),) * devices)


class ReversedTest(BoxTest):
    def test_every_kind_of_part(self):
        self.assertEqual(
            reversed_box(EVERYTHING),
            (
                5,
                (("mesh", 4, 20, 1, 40), ("inner", 0, 15, 3, 60), ("planet", 2, 30, 4, 70, 0), ("mesh", 1, 11, 3, 12)),
                (
                    ("clutch", 3, 4),
                    ("brake", 0),
                    ("clutch", 0, 3),
                    ("clutch", 0, 4),
                    ("brake", 4),
                    ("brake", 2),
                    ("clutch", 1, 2),
                ),
            ),
        )
        self.assertEqual(reversed_box(PLANET), (3, (("planet", 2, 30, 1, 70, 0),), (("brake", 1), ("clutch", 0, 2))))
        self.assertEqual(reversed_box((2, (("mesh", 0, 20, 1, 40),), ())), (2, (("mesh", 1, 20, 0, 40),), ()))

    def test_equations(self):
        for box in BOXES:
            turned = reversed_box(box)
            self.assertIs(is_box(turned), True)
            self.assertEqual((turned[0], len(turned[1]), len(turned[2])), (box[0], len(box[1]), len(box[2])))
            for part in range(part_count(box)):
                row = row_of(box, part)[::-1]
                if ((box[1] + box[2])[part])[0] == "clutch":
                    row = tuple(-entry for entry in row)
                self.assertEqual(row_of(turned, part), row)

    def test_twice_is_the_box(self):
        for box in BOXES:
            self.assertEqual(reversed_box(reversed_box(box)), box)

    def test_order_and_teeth_stay(self):
        for box in BOXES:
            turned = reversed_box(box)
            for one, other in zip(box[1], turned[1]):
                self.assertEqual((one[0], one[2], one[4]), (other[0], other[2], other[4]))
            self.assertEqual([one[0] for one in box[2]], [one[0] for one in turned[2]])
            for device in turned[2]:
                self.assertEqual(list(device[1:]), sorted(device[1:]))

    def test_boxes_without_parts(self):
        for shafts in range(2, 9):
            self.assertEqual(reversed_box((shafts, (), ())), (shafts, (), ()))

    def test_wrong_boxes(self):
        for wrong in (*WRONG_BOXES, *ODD_VALUES):
            self.fails(InvalidBox, reversed_box, wrong)

    def test_same_again(self):
        self.gives_the_same_again(reversed_box, [(box,) for box in BOXES])


class JoinedTest(BoxTest):
    def test_numbers_of_shafts_and_order_of_parts(self):
        second = (
            3,
            (("planet", 1, 31, 2, 71, 0), ("inner", 0, 9, 2, 10)),
            (("brake", 0), ("clutch", 0, 2), ("brake", 2), ("clutch", 1, 2)),
        )
        first = (4, (("mesh", 3, 20, 1, 40),), (("clutch", 2, 3), ("brake", 3)))
        self.assertEqual(
            joined(first, second),
            (
                6,
                (("mesh", 3, 20, 1, 40), ("planet", 4, 31, 5, 71, 3), ("inner", 3, 9, 5, 10)),
                (("clutch", 2, 3), ("brake", 3), ("brake", 3), ("clutch", 3, 5), ("brake", 5), ("clutch", 4, 5)),
            ),
        )
        self.assertEqual(
            joined(second, first),
            (
                6,
                (("planet", 1, 31, 2, 71, 0), ("inner", 0, 9, 2, 10), ("mesh", 5, 20, 3, 40)),
                (("brake", 0), ("clutch", 0, 2), ("brake", 2), ("clutch", 1, 2), ("clutch", 4, 5), ("brake", 5)),
            ),
        )

    def test_the_output_of_the_first_is_the_input_of_the_second(self):
        self.assertEqual(joined((2, (), (("brake", 1),)), (2, (), (("brake", 0),))), (3, (), (("brake", 1),) * 2))

    def test_equations(self):
        for first in BOXES[::2]:
            for second in BOXES[::3]:
                if first[0] + second[0] > 9 or len(first[1] + second[1]) > 6 or len(first[2] + second[2]) > 8:
                    self.fails(TooLarge, joined, first, second)
                    continue
                box = joined(first, second)
                self.assertIs(is_box(box), True)
                parts = first[1] + second[1] + first[2] + second[2]
                self.assertEqual([part[0] for part in box[1] + box[2]], [part[0] for part in parts])
                rows = [row_of(first, k) + (0,) * (second[0] - 1) for k in range(part_count(first))]
                others = [(0,) * (first[0] - 1) + row_of(second, k) for k in range(part_count(second))]
                gears = rows[: len(first[1])] + others[: len(second[1])]
                devices = rows[len(first[1]) :] + others[len(second[1]) :]
                self.assertEqual([row_of(box, k) for k in range(part_count(box))], gears + devices)

    def test_number_of_shafts(self):
        for first in range(2, 9):
            for second in range(2, 9):
                if first + second - 1 <= 8:
                    self.assertEqual(joined((first, (), ()), (second, (), ())), (first + second - 1, (), ()))
                else:
                    self.fails(TooLarge, joined, (first, (), ()), (second, (), ()))

    def test_number_of_gears(self):
        for first in range(7):
            for second in range(7):
                if first + second <= 6:
                    self.assertEqual(len(joined(bare(2, first), bare(3, second))[1]), first + second)
                else:
                    self.fails(TooLarge, joined, bare(2, first), bare(3, second))

    def test_number_of_devices(self):
        for first in range(9):
            for second in range(9):
                if first + second <= 8:
                    self.assertEqual(len(joined(bare(3, 1, first), bare(2, 0, second))[2]), first + second)
                else:
                    self.fails(TooLarge, joined, bare(3, 1, first), bare(2, 0, second))

    def test_just_as_large_as_may_be(self):
        self.assertEqual(
            joined(bare(4, 3, 4), bare(5, 3, 4)),
            (
                8,
                (("mesh", 0, 20, 1, 40),) * 3 + (("mesh", 3, 20, 4, 40),) * 3,
                (("clutch", 0, 1),) * 4 + (("clutch", 3, 4),) * 4,
            ),
        )
        for first, second in (
            (bare(5, 3, 4), bare(5, 3, 4)),
            (bare(4, 4, 4), bare(5, 3, 4)),
            (bare(4, 3, 4), bare(5, 3, 5)),
            (bare(8, 6, 8), bare(8, 6, 8)),
            (CHAIN, bare(2)),
            (bare(2), CHAIN),
        ):
            self.fails(TooLarge, joined, first, second)

    def test_boxes_without_gears_or_devices(self):
        self.assertEqual(joined((2, (), ()), (2, (), ())), (3, (), ()))
        moved = (4, (("planet", 1, 30, 2, 70, 3),), (("brake", 2), ("clutch", 1, 3)))
        self.assertEqual(joined((2, (), ()), PLANET), moved)
        self.assertEqual(joined(PLANET, (2, (), ())), (4, *PLANET[1:]))
        self.assertEqual(joined(bare(2, 1), bare(2, 0, 1)), (3, (("mesh", 0, 20, 1, 40),), (("clutch", 1, 2),)))
        self.assertEqual(joined(bare(2, 0, 1), bare(2, 1)), (3, (("mesh", 1, 20, 2, 40),), (("clutch", 0, 1),)))

    def test_a_box_with_itself(self):
        box = copied(PLANET)
        self.assertEqual(
            joined(box, box),
            (
                5,
                (("planet", 0, 30, 1, 70, 2), ("planet", 2, 30, 3, 70, 4)),
                (("brake", 1), ("clutch", 0, 2), ("brake", 3), ("clutch", 2, 4)),
            ),
        )
        self.assertEqual(box, PLANET)

    def test_wrong_boxes(self):
        for wrong in (*WRONG_BOXES, *ODD_VALUES):
            for right in (PLANET, CHAIN, bare(8, 6, 8)):
                self.fails(InvalidBox, joined, wrong, right)
                self.fails(InvalidBox, joined, right, wrong)
            for other in WRONG_BOXES:
                self.fails(InvalidBox, joined, wrong, other)

    def test_same_again(self):
        self.gives_the_same_again(joined, [(PLANET, PLANET), (PLANET, bare(2, 1)), (EVERYTHING, bare(3, 2, 1))])


if __name__ == "__main__":
    unittest.main()
