"""Point 18, and what point 3 says of what shows the kind of a set."""

import unittest
from itertools import product

from planetbox.checker import check
from planetbox.errors import BoxError, InvalidBox, NotACertificate
from planetbox.kinds import kind, motion, two_motions
from planetbox.prices import cheaper_swap, cheapest, falling_shift
from planetbox.shifts import shift
from planetbox.weights import held_weights, shaft_weights
from tests.support import CHAIN, ODD_VALUES, PLANET, SAMPLES, WRONG_BOXES, BoxTest
from tests.support import cases, copied, engaged_sets, full_cases, full_sets_of, is_swap, kind_of, more, nodes, obeys
from tests.support import not_full_cases, numbers, part_count, replaced, sum_of, wrong_engaged, wrong_rows

RIGHT = ("right",)
WHEEL = (5, (), tuple(("clutch", 0, shaft) for shaft in range(1, 5)) + tuple(("brake", k) for k in range(1, 5)))
BRACE = (4, (), tuple(("clutch", *shafts) for shafts in ((0, 1), (1, 2), (2, 3), (0, 3), (0, 2))) + (("brake", 3),))


def are_ints(value, many):
    return type(value) is tuple and len(value) == many and all(type(entry) is int for entry in value)


def is_set(box, value):
    return type(value) is tuple and are_ints(value, len(value)) and value in engaged_sets(box)


def fit(box, engaged, value):
    """Whether the value is weights for the engaged set."""
    gears = len(box[1])
    return are_ints(value, part_count(box)) and all(
        value[gears + device] == 0 for device in range(len(box[2])) if device not in engaged
    )


def is_motion_of(box, engaged, value):
    return are_ints(value, box[0]) and obeys(box, engaged, value)


def shows_held(box, engaged, value):
    return fit(box, engaged, value) and sum_of(box, value)[0] != 0 and set(sum_of(box, value)[1:]) == {0}


def shows_shaft(box, engaged, value, shaft):
    if not fit(box, engaged, value):
        return False
    total = list(sum_of(box, value))
    return total.pop(shaft) > 0 and set(total[1:]) <= {0}


def price(engaged, prices):
    return sum(prices[device] for device in engaged)


def conditions(word, box, *entries):
    """The conditions of a certificate, as point 18 words them, each to be looked at behind those before it."""
    if word == "shift":
        (sets,) = entries
        yield (
            type(sets) is list
            and len(sets) > 0
            and all(is_set(box, engaged) and engaged in full_sets_of(box) for engaged in sets)
            and all(is_swap(before, after) for before, after in zip(sets, sets[1:]))
        )
        yield len(sets) - 1 == len(set(sets[0]) - set(sets[-1]))
        return
    engaged, *entries = entries
    if word == "cheapest":
        (prices,) = entries
        fits = are_ints(prices, len(box[2])) and all(0 <= entry <= 1000 for entry in prices)
        yield is_set(box, engaged) and engaged in full_sets_of(box) and fits
        lower = [other for other in full_sets_of(box) if price(other, prices) < price(engaged, prices)]
        yield not any(is_swap(engaged, other) for other in lower)
        return
    yield is_set(box, engaged)
    if word == "held":
        yield shows_held(box, engaged, entries[0])
    elif word == "loose":
        first, second = entries
        yield is_motion_of(box, engaged, first) and is_motion_of(box, engaged, second)
        yield first[0] != 0
        yield second[0] == 0 and set(second) != {0}
    else:
        speeds, rows = entries
        yield is_motion_of(box, engaged, speeds) and speeds[0] != 0
        yield (
            type(rows) is tuple
            and len(rows) == box[0] - 1
            and all(shows_shaft(box, engaged, row, shaft) for shaft, row in enumerate(rows, 1))
        )


def verdict(certificate):
    for number, holds in enumerate(conditions(*certificate)):
        if not holds:
            return ("wrong", number)
    return RIGHT


def own_certificate(box, engaged):
    """The certificate of the kind of the set, made of the program's results."""
    word = kind(box, engaged)
    if word == "held":
        return (word, box, engaged, held_weights(box, engaged))
    if word == "loose":
        return (word, box, engaged, *two_motions(box, engaged))
    rows = tuple(shaft_weights(box, engaged, shaft) for shaft in range(1, box[0]))
    return (word, box, engaged, motion(box, engaged), rows)


def kind_certificates(*kinds):
    return [own_certificate(box, engaged) for box, engaged in cases(*kinds)]


def prices_for(box):
    stream = numbers(len(box[2]) + 3)
    found = [(3,) * len(box[2]), tuple(range(len(box[2])))]
    return found + [tuple(next(stream) % 7 for _ in box[2]) for _ in range(2)]


def cheapest_certificates():
    return [("cheapest", box, engaged, prices) for box, engaged in full_cases() for prices in prices_for(box)]


def shift_certificates():
    found = []
    for box in (*SAMPLES.values(), WHEEL, BRACE):
        sets = full_sets_of(box)
        found += [("shift", box, shift(box, first, second)) for first in sets[:5] for second in sets[-5:]]
    return found


def changed(node):
    """Other values for a place of a certificate."""
    found = [None, True, False, "x", "", [], (), [0], (0,), ((),), ((0, 0), 0)]
    if type(node) is int:
        found += [node + 1, node - 1, -node, 0, 1, 10**30, -(10**30), str(node), (node,), [node], bool(node)]
        found += [node * 10**999 // 7]
    if isinstance(node, (tuple, list)):
        other = list if type(node) is tuple else tuple
        found += [other(node), node[:-1], node[1:], node[::-1], node + type(node)((0,)), node * 2, type(node)((node,))]
        found += [type(node)(sorted(node, key=repr))]
    return found


class CheckerTest(BoxTest):
    def gives(self, certificate, expected):
        before = repr(certificate)
        found = check(certificate)
        self.assertEqual(repr(found), repr(expected), certificate)
        self.assertEqual(repr(certificate), before)

    def agrees(self, certificate):
        """Check that the checker and the conditions of the document say the same."""
        self.gives(certificate, verdict(certificate))
        return verdict(certificate)

    def agrees_on_changes(self, certificates):
        """Change each place behind the box of the certificates, and return all verdicts that came of it."""
        found = set()
        for certificate in certificates:
            for path, node in nodes(certificate):
                if path and path[0] > 1:
                    for value in changed(node):
                        found.add(self.agrees(replaced(certificate, path, value)))
        return found


def wrongs(many):
    return {("wrong", number) for number in range(many)}


class FormTest(CheckerTest):
    def test_what_is_no_certificate(self):
        right = (own_certificate(PLANET, (0, 1)), own_certificate(PLANET, ()), own_certificate(PLANET, (0,)))
        right += (("shift", PLANET, [(0,)]), ("cheapest", PLANET, (0,), (1, 1)))
        for certificate in right:
            self.gives(certificate, RIGHT)
            for wrong in (certificate[:-1], (*certificate, 0), (*certificate, certificate[-1]), certificate[:1], ()):
                self.fails(NotACertificate, check, wrong)
            for wrong in (list(certificate), (certificate,), [certificate], certificate[1:], (*certificate[1:], 0)):
                self.fails(NotACertificate, check, wrong)
            for word in ("", "Held", "full", "held ", "carried", None, True, 0, (), [], ["held"], ("held",), [[]]):
                self.fails(NotACertificate, check, (word, *certificate[1:]))

    def test_other_values(self):
        for value in (*ODD_VALUES, "held", "shift", ("held",), ["shift", PLANET, [(0,)]], (((("held",),),),)):
            self.fails(NotACertificate, check, value)

    def test_each_number_of_entries(self):
        for word, right in {"held": 4, "loose": 5, "driven": 5, "shift": 3, "cheapest": 4}.items():
            for many in range(8):
                for value in (None, 0, PLANET):
                    wrong = (word, *(value for _ in range(many - 1)))[:many]
                    if many != right:
                        self.fails(NotACertificate, check, wrong)
                    elif value != PLANET:
                        self.fails(InvalidBox, check, wrong)
                    else:
                        self.gives(wrong, ("wrong", 0))

    def test_wrong_boxes(self):
        for wrong in (*WRONG_BOXES, *ODD_VALUES):
            for rest in (((0,), (0, 0, 0)), (None, None), ((), ())):
                self.fails(InvalidBox, check, ("held", wrong, *rest))
                self.fails(InvalidBox, check, ("cheapest", wrong, *rest))
            for word in ("loose", "driven"):
                self.fails(InvalidBox, check, (word, wrong, (), (0, 0, 0), ()))
                self.fails(InvalidBox, check, (word, wrong, None, None, None))
            for sets in ([(0,)], [], None, 0):
                self.fails(InvalidBox, check, ("shift", wrong, sets))

    def test_no_certificate_before_a_wrong_box(self):
        for wrong in (*WRONG_BOXES, *ODD_VALUES):
            self.fails(NotACertificate, check, ("held", wrong))
            self.fails(NotACertificate, check, ("heldx", wrong, (0, 1), (1, -70, -100)))
            self.fails(NotACertificate, check, ["shift", wrong, [(0,)]])

    def test_any_value_as_an_entry(self):
        for first, second in product(ODD_VALUES, repeat=2):
            self.agrees(("held", PLANET, first, second))
            self.agrees(("cheapest", PLANET, first, second))
            for word in ("loose", "driven"):
                self.agrees((word, PLANET, (0,), first, second))
                self.agrees((word, PLANET, first, second, first))
            self.agrees(("shift", PLANET, first))
            self.agrees(("shift", PLANET, [first, second]))


class HeldTest(CheckerTest):
    def test_right(self):
        for certificate in kind_certificates("held"):
            self.gives(certificate, RIGHT)
            self.gives((*certificate[:3], tuple(-entry for entry in certificate[3])), RIGHT)
            self.gives((*certificate[:3], tuple(10**900 * entry for entry in certificate[3])), RIGHT)

    def test_by_hand(self):
        self.gives(("held", PLANET, (0, 1), (1, -70, -100)), RIGHT)
        self.gives(("held", PLANET, (0, 1), (1, -70, -99)), ("wrong", 1))
        self.gives(("held", PLANET, (0, 1), (0, 0, 0)), ("wrong", 1))
        # The sum for the input is 0 here, with all others 0, too.
        brakes = (2, (), (("brake", 0), ("brake", 0)))
        self.gives(("held", brakes, (0, 1), (3, -3)), ("wrong", 1))
        self.gives(("held", brakes, (0, 1), (3, -2)), RIGHT)
        self.gives(("held", brakes, (0,), (3, -2)), ("wrong", 1))
        self.gives(("held", brakes, (1,), (0, -2)), RIGHT)
        self.gives(("held", brakes, (), (0, 0)), ("wrong", 1))

    def test_first_condition(self):
        for certificate in kind_certificates("held")[::3]:
            for wrong in wrong_engaged(certificate[1]):
                self.gives((*certificate[:2], wrong, certificate[3]), ("wrong", 0))

    def test_second_condition(self):
        for _, box, engaged, weights in kind_certificates("held"):
            none = (None,) * len(weights)
            for wrong in (list(weights), weights + (0,), weights[:-1], None, 0, (), weights * 2, none):
                if wrong != weights:
                    self.gives(("held", box, engaged, wrong), ("wrong", 1))

    def test_changes(self):
        found = self.agrees_on_changes(kind_certificates("held")[::9])
        self.assertEqual(found, {RIGHT} | wrongs(2))


class LooseTest(CheckerTest):
    def test_right(self):
        for _, box, engaged, first, second in kind_certificates("loose"):
            self.gives(("loose", box, engaged, first, second), RIGHT)
            both = tuple(one + 10**999 * other for one, other in zip(first, second))
            self.gives(("loose", box, engaged, both, tuple(-entry for entry in second)), RIGHT)
            self.gives(("loose", box, engaged, tuple(-3 * entry for entry in first), second), RIGHT)

    def test_by_hand(self):
        first, second, zeros = (1, 1, 1), (0, 10, 7), (0, 0, 0)
        self.gives(("loose", PLANET, (), first, second), RIGHT)
        self.gives(("loose", PLANET, (), (-10, 0, -3), (0, -10, -7)), RIGHT)
        self.gives(("loose", PLANET, (0,), first, second), ("wrong", 1))
        self.gives(("loose", PLANET, (0,), (10, 0, 3), second), ("wrong", 1))
        self.gives(("loose", PLANET, (), (1, 1, 2), second), ("wrong", 1))
        self.gives(("loose", PLANET, (), first, (0, 10, 8)), ("wrong", 1))
        self.gives(("loose", PLANET, (), second, second), ("wrong", 2))
        self.gives(("loose", PLANET, (), zeros, first), ("wrong", 2))
        self.gives(("loose", PLANET, (), first, first), ("wrong", 3))
        self.gives(("loose", PLANET, (), first, zeros), ("wrong", 3))
        self.gives(("loose", PLANET, (1, 0), first, first), ("wrong", 0))

    def test_each_condition(self):
        for _, box, engaged, first, second in kind_certificates("loose")[::3]:
            for wrong in wrong_engaged(box):
                self.gives(("loose", box, wrong, first, second), ("wrong", 0))
            for wrong in (list(first), first[:-1], (*first, 0), None, 0, "0", (True,) * box[0], (None,) * box[0]):
                self.gives(("loose", box, engaged, wrong, second), ("wrong", 1))
                self.gives(("loose", box, engaged, first, wrong), ("wrong", 1))
            self.gives(("loose", box, engaged, second, first), ("wrong", 2))
            self.gives(("loose", box, engaged, (0,) * box[0], second), ("wrong", 2))
            self.gives(("loose", box, engaged, first, first), ("wrong", 3))
            self.gives(("loose", box, engaged, first, (0,) * box[0]), ("wrong", 3))

    def test_changes(self):
        found = self.agrees_on_changes(kind_certificates("loose")[::25])
        self.assertEqual(found, {RIGHT} | wrongs(4))


class DrivenTest(CheckerTest):
    def test_right(self):
        for _, box, engaged, speeds, rows in kind_certificates("driven"):
            self.gives(("driven", box, engaged, speeds, rows), RIGHT)
            twice = tuple(tuple(2 * entry for entry in row) for row in rows)
            self.gives(("driven", box, engaged, tuple(-(10**900) * entry for entry in speeds), twice), RIGHT)

    def test_by_hand(self):
        speeds, rows = (10, 0, 3), ((0, 1, 0), (-1, 70, 0))
        self.gives(("driven", PLANET, (0,), speeds, rows), RIGHT)
        self.gives(("driven", PLANET, (0,), speeds, ((0, 5, 0), (-2, 140, 0))), RIGHT)
        self.gives(("driven", PLANET, (0,), speeds, rows[::-1]), ("wrong", 2))
        self.gives(("driven", PLANET, (0,), speeds, rows[:1]), ("wrong", 2))
        self.gives(("driven", PLANET, (0,), speeds, (*rows, rows[1])), ("wrong", 2))
        self.gives(("driven", PLANET, (0,), speeds, ((0, 0, 0), *rows)), ("wrong", 2))
        self.gives(("driven", PLANET, (0,), speeds, list(rows)), ("wrong", 2))
        self.gives(("driven", PLANET, (0,), speeds, ([0, 1, 0], rows[1])), ("wrong", 2))
        # A sum that is negative, or 0, for the shaft itself.
        self.gives(("driven", PLANET, (0,), speeds, ((0, -1, 0), rows[1])), ("wrong", 2))
        self.gives(("driven", PLANET, (0,), speeds, ((0, 0, 0), rows[1])), ("wrong", 2))
        self.gives(("driven", PLANET, (0,), speeds, (rows[0], (1, -70, 0))), ("wrong", 2))
        self.gives(("driven", PLANET, (0,), speeds, (rows[0], (-1, 69, 0))), ("wrong", 2))
        self.gives(("driven", PLANET, (0,), speeds, (rows[0], (-1, 70, 1))), ("wrong", 2))
        self.gives(("driven", PLANET, (0,), (0, 0, 0), rows), ("wrong", 1))
        self.gives(("driven", PLANET, (0,), (10, 0, 4), rows), ("wrong", 1))
        self.gives(("driven", PLANET, (), speeds, rows), ("wrong", 2))
        self.gives(("driven", PLANET, (), (0, 10, 7), rows), ("wrong", 1))
        self.gives(("driven", PLANET, (1,), speeds, rows), ("wrong", 1))
        self.gives(("driven", PLANET, (0, 1), (0, 0, 0), rows), ("wrong", 1))
        self.gives(("driven", PLANET, [0], speeds, rows), ("wrong", 0))

    def test_each_condition(self):
        for _, box, engaged, speeds, rows in kind_certificates("driven")[::2]:
            for wrong in wrong_engaged(box):
                self.gives(("driven", box, wrong, speeds, rows), ("wrong", 0))
            for wrong in (list(speeds), speeds[:-1], (*speeds, 0), (0,) * box[0], None, (True,) * box[0]):
                self.gives(("driven", box, engaged, wrong, rows), ("wrong", 1))
            lists = tuple(list(row) for row in rows)
            for wrong in (list(rows), rows[:-1], (*rows, rows[-1]), (), None, lists, rows[0]):
                self.gives(("driven", box, engaged, speeds, wrong), ("wrong", 2))

    def test_boxes_of_two_shafts(self):
        box = (2, (), (("clutch", 0, 1),))
        self.gives(("driven", box, (0,), (1, 1), ((-1,),)), RIGHT)
        self.gives(("driven", box, (0,), (1, 1), ((1,),)), ("wrong", 2))
        self.gives(("driven", box, (0,), (1, 1), (-1,)), ("wrong", 2))

    def test_changes(self):
        found = self.agrees_on_changes(kind_certificates("driven")[::12])
        self.assertEqual(found, {RIGHT} | wrongs(3))


class ShiftTest(CheckerTest):
    def test_right(self):
        certificates = shift_certificates()
        self.assertGreaterEqual({len(certificate[2]) for certificate in certificates}, {1, 2, 3, 4, 5})
        for certificate in certificates:
            self.gives(certificate, RIGHT)
            self.gives((*certificate[:2], certificate[2][::-1]), RIGHT)

    def test_falling_shifts(self):
        for box, engaged in full_cases():
            for prices in prices_for(box):
                self.gives(("shift", box, falling_shift(box, engaged, prices)), RIGHT)

    def test_a_shift_of_one_set(self):
        for box, engaged in full_cases():
            self.gives(("shift", box, [engaged]), RIGHT)
        for box, engaged in not_full_cases():
            self.gives(("shift", box, [engaged]), ("wrong", 0))

    def test_empty_lists_and_tuples(self):
        for box in SAMPLES.values():
            for wrong in ([], (), tuple(full_sets_of(box)[:1]), None, 0, "", [[]], [None], [()] * 2):
                self.gives(("shift", box, wrong), ("wrong", 0))

    def test_left_out_put_in_and_repeated(self):
        seen = set()
        for word, box, sets in shift_certificates():
            for at in range(len(sets)):
                seen.add(self.agrees((word, box, sets[:at] + sets[at + 1 :])))
                self.gives((word, box, sets[: at + 1] + sets[at:]), ("wrong", 0))
                for other in full_sets_of(box)[:6]:
                    seen.add(self.agrees((word, box, sets[:at] + [other] + sets[at:])))
                    seen.add(self.agrees((word, box, sets[:at] + [other] + sets[at + 1 :])))
        self.assertEqual(seen, {RIGHT} | wrongs(2))

    def test_more_swaps_than_needed(self):
        self.gives(("shift", PLANET, [(0,), (1,), (0,)]), ("wrong", 1))
        self.gives(("shift", PLANET, [(0,), (1,), (0,), (1,)]), ("wrong", 1))
        box = (2, (), (("clutch", 0, 1),) * 3)
        self.gives(("shift", box, [(0,), (1,), (2,)]), ("wrong", 1))
        self.gives(("shift", box, [(0,), (2,)]), RIGHT)
        self.gives(("shift", box, [(0,), (1,), (2,), (0,)]), ("wrong", 1))

    def test_by_hand(self):
        sets = [(0, 1, 2, 3), (0, 1, 3, 6), (0, 3, 5, 6), (3, 4, 5, 6), (4, 5, 6, 7)]
        self.gives(("shift", WHEEL, sets), RIGHT)
        self.gives(("shift", WHEEL, sets[:2] + sets[3:]), ("wrong", 0))
        self.gives(("shift", WHEEL, sets[:3] + sets[1::-1]), ("wrong", 1))
        self.gives(("shift", WHEEL, [tuple(reversed(one)) for one in sets]), ("wrong", 0))
        self.gives(("shift", WHEEL, [list(one) for one in sets]), ("wrong", 0))
        self.gives(("shift", PLANET, sets), ("wrong", 0))
        self.gives(("shift", PLANET, [(0,), (1,), ()]), ("wrong", 0))
        self.gives(("shift", PLANET, [(), (1,)]), ("wrong", 0))
        self.gives(("shift", PLANET, [(0,), (0, 1), (1,)]), ("wrong", 0))
        self.gives(("shift", PLANET, [(False,), (True,)]), ("wrong", 0))

    def test_driven_sets_that_are_not_full(self):
        box = (2, (), (("clutch", 0, 1),) * 3)
        self.gives(("shift", box, [(0, 1), (0, 2)]), ("wrong", 0))

    def test_changes(self):
        found = self.agrees_on_changes(shift_certificates()[::40])
        self.assertEqual(found, {RIGHT} | wrongs(2))


class CheapestTest(CheckerTest):
    def test_every_full_set(self):
        found = [self.agrees(certificate) for certificate in cheapest_certificates()]
        self.assertEqual(set(found), {RIGHT, ("wrong", 1)})

    def test_what_the_program_returns(self):
        for word, box, engaged, prices in cheapest_certificates():
            self.gives((word, box, cheapest(box, prices), prices), RIGHT)
            right = cheaper_swap(box, engaged, prices) is None
            self.gives((word, box, engaged, prices), RIGHT if right else ("wrong", 1))

    def test_a_cheapest_set_that_is_not_the_least_one(self):
        self.gives(("cheapest", PLANET, (0,), (5, 5)), RIGHT)
        self.gives(("cheapest", PLANET, (1,), (5, 5)), RIGHT)
        self.gives(("cheapest", PLANET, (1,), (5, 6)), ("wrong", 1))
        self.gives(("cheapest", PLANET, (0,), (5, 4)), ("wrong", 1))
        self.gives(("cheapest", PLANET, (1,), (1000, 0)), RIGHT)
        self.gives(("cheapest", PLANET, (1,), (1001, 0)), ("wrong", 0))
        self.gives(("cheapest", PLANET, (1,), (1000, -1)), ("wrong", 0))

    def test_first_condition(self):
        for box, engaged in full_cases()[::3]:
            prices = (1,) * len(box[2])
            for wrong in wrong_engaged(box):
                self.gives(("cheapest", box, wrong, prices), ("wrong", 0))
            for wrong in wrong_rows(len(box[2]), 0, 1000):
                self.gives(("cheapest", box, engaged, wrong), ("wrong", 0))
        for box, engaged in not_full_cases():
            self.gives(("cheapest", box, engaged, (0,) * len(box[2])), ("wrong", 0))

    def test_changes(self):
        found = self.agrees_on_changes(cheapest_certificates()[::40])
        self.assertEqual(found, {RIGHT} | wrongs(2))


class AnotherTest(CheckerTest):
    """Right certificates, but for another set or another box."""

    def test_another_set(self):
        for kinds in ("held", "loose", "driven"):
            found = set()
            for certificate in kind_certificates(kinds)[::5]:
                for other in engaged_sets(certificate[1])[:40]:
                    found.add(self.agrees((*certificate[:2], other, *certificate[3:])))
            self.assertGreaterEqual(found, {RIGHT, ("wrong", 1)})
        found = set()
        for word, box, engaged, prices in cheapest_certificates()[::9]:
            found |= {self.agrees((word, box, other, prices)) for other in engaged_sets(box)[:40]}
        self.assertEqual(found, {RIGHT} | wrongs(2))

    def test_another_box(self):
        boxes = list(SAMPLES.values())[::6]
        for certificates in (
            kind_certificates("held")[::9],
            kind_certificates("loose")[::20],
            kind_certificates("driven")[::9],
            shift_certificates()[::9],
            cheapest_certificates()[::20],
        ):
            found = set()
            for word, _, *rest in certificates:
                found |= {self.agrees((word, box, *rest)) for box in boxes}
            self.assertGreater(len(found), 1)

    def test_another_word(self):
        right = kind_certificates("loose")[::5] + kind_certificates("driven")[::5]
        for word, *rest in right:
            self.agrees(("driven" if word == "loose" else "loose", *rest))
        for word, *rest in kind_certificates("held")[::5] + cheapest_certificates()[::9]:
            self.agrees(("cheapest" if word == "held" else "held", *rest))


class MainPromiseTest(CheckerTest):
    def candidates(self, box, engaged):
        """What the program returns for this set and for others, as certificates of each kind for this set."""
        weights, motions = [(0,) * part_count(box)], [(0,) * box[0]]
        sets = [engaged, ()] + [more(engaged, device) for device in range(len(box[2])) if device not in engaged]
        for other in sets:
            word, _, _, *entries = own_certificate(box, other)
            if word == "held":
                weights += entries
            elif word == "loose":
                motions += entries
            else:
                motions.append(entries[0])
                weights += entries[1]
        found = [("held", box, engaged, entry) for entry in weights]
        found += [("loose", box, engaged, first, second) for first, second in product(motions, repeat=2)]
        rows = [tuple(weights[1 : box[0]])] + [tuple(weights[at : at + box[0] - 1]) for at in range(len(weights))]
        return found + [("driven", box, engaged, speeds, row) for speeds in motions for row in rows]

    def test_exactly_one_kind_of_certificate_is_right(self):
        for box, engaged in cases()[::3]:
            own = own_certificate(box, engaged)
            self.gives(own, RIGHT)
            self.assertEqual(own[0], kind_of(box, engaged))
            right = {certificate[0] for certificate in self.candidates(box, engaged) if check(certificate) == RIGHT}
            self.assertLessEqual(right, {own[0]}, (box, engaged))

    def test_each_set_has_just_the_results_of_its_kind(self):
        for box, engaged in cases():
            made = []
            for word, function in (("held", held_weights), ("loose", two_motions), ("driven", motion)):
                try:
                    function(box, engaged)
                    made.append(word)
                except BoxError:
                    pass
            self.assertEqual(made, [own_certificate(box, engaged)[0]])

    def test_same_again(self):
        certificates = (*kind_certificates()[::20], *shift_certificates()[::9], *cheapest_certificates()[::9])
        before = [check(certificate) for certificate in certificates]
        again = [check((word, copied(box), *rest)) for word, box, *rest in reversed(certificates)]
        self.assertEqual(again[::-1], before)
        for certificate in certificates:
            self.assertIs(type(check(certificate)), tuple)

    def test_eight_shafts(self):
        self.gives(own_certificate(CHAIN, tuple(range(8))), RIGHT)
        self.gives(own_certificate(CHAIN, tuple(range(7))), RIGHT)
        self.gives(own_certificate(CHAIN, (0, 3)), RIGHT)


if __name__ == "__main__":
    unittest.main()
