"""Point 29, and what point 3 says of all that shows a state, a freewheel or a shaft."""

import unittest
from fractions import Fraction
from functools import lru_cache
from itertools import product

from planetbox.checker import check
from planetbox.errors import NotACertificate
from planetbox.firm import firm_torques, parted_pair, slack_course
from planetbox.records import judge
from planetbox.settled import settling_weights, two_courses
from planetbox.states import bars_of, carry_of, slip_of
from planetbox.wrongs import InvalidRig, NotARecord
from tests.load_support import BENT, FORWARDS, LOADED, ONE_WAY, OPPOSED, LoadTest, are_bars_of, are_ints, are_right_of
from tests.load_support import are_settling_of, by, cases_of, corners_of, firm_in, fit, is_settled_in, load_cases
from tests.load_support import load_of, part_ways, plus, shafts_of, spread, state_in, wrong_burdens, wrong_wheels
from tests.rig_support import RIG, WRONG_RIGS, is_course_of, is_drift_of, values_of
from tests.support import NEVER, ODD_VALUES, PLANET, copied, engaged_sets, nodes, replaced, wrong_engaged, wrong_shafts
from tests.test_checker import RIGHT, changed, kind_certificates, wrongs

LENGTHS = {"barred": 4, "slipping": 6, "carried": 6, "firm": 7, "slack": 7, "settled": 8, "unlike": 8}
OWN = (100, (-1, 0, 0), (70,))


def is_set_of(rig, value):
    if type(value) is not tuple or any(type(device) is not int for device in value):
        return False
    return value in engaged_sets(rig[0])


def are_burdens_of(rig, value):
    return are_ints(value, rig[0][0] - 1) and all(abs(burden) <= 100 for burden in value)


def is_number(value, many):
    return type(value) is int and 0 <= value < many


def carried_conditions(rig, engaged, burdens, courses, torques):
    """The first conditions of most forms, each to be looked at behind those before it."""
    yield is_set_of(rig, engaged)
    yield are_burdens_of(rig, burdens)
    yield all(is_course_of(rig, engaged, course) for course in courses)
    yield are_right_of(rig, engaged, burdens, torques)
    yield all(part_ways(rig, course, torques) for course in courses)


def ratio(course, shaft):
    return Fraction(course[shaft], course[0])


def conditions(word, rig, *entries):
    """The conditions of a record, as point 29 words them."""
    if word == "barred":
        engaged, torques = entries
        yield is_set_of(rig, engaged)
        yield are_bars_of(rig, engaged, torques)
    elif word == "slipping":
        engaged, burdens, course, drift = entries
        yield is_set_of(rig, engaged)
        yield are_burdens_of(rig, burdens)
        yield is_course_of(rig, engaged, course)
        yield is_drift_of(rig, engaged, drift)
        yield load_of(burdens, drift) < 0
    elif word == "unlike":
        engaged, burdens, course, other, torques, shaft = entries
        yield from carried_conditions(rig, engaged, burdens, (course, other), torques)
        yield is_number(shaft, rig[0][0]) and shaft != 0
        yield ratio(course, shaft) != ratio(other, shaft)
    else:
        engaged, burdens, course, torques, *rest = entries
        yield from carried_conditions(rig, engaged, burdens, (course,), torques)
        if word in ("firm", "slack"):
            yield is_number(rest[0], len(rig[1]))
            yield (torques[2] if word == "firm" else values_of(rig, course))[rest[0]] > 0
        elif word == "settled":
            shaft, settling = rest
            yield is_number(shaft, rig[0][0]) and shaft != 0
            fits = type(settling) is tuple and len(settling) == 2 and fit(rig[0], engaged, settling[0])
            fits = fits and are_ints(settling[1], len(rig[1]))
            yield fits and all(hold or not lock for lock, hold in zip(settling[1], torques[2]))
            yield are_settling_of(rig, engaged, (), shaft, settling)


def verdict(record):
    for number, holds in enumerate(conditions(*record)):
        if not holds:
            return ("wrong", number)
    return RIGHT


def own_records(rig, engaged, burdens):
    """All records of this set and these burdens, made of what the program returns."""
    bars, slip = bars_of(rig, engaged), slip_of(rig, engaged, burdens)
    loaded = rig, engaged, burdens
    if bars is not None:
        return [("barred", rig, engaged, bars)]
    if slip is not None:
        return [("slipping", *loaded, *slip)]
    course, torques = carry_of(*loaded)
    pair = parted_pair(*loaded)
    found = [("carried", *loaded, course, torques), ("carried", *loaded, *pair)]
    found += [("carried", *loaded, course, pair[1]), ("carried", *loaded, pair[0], torques)]
    for wheel in range(len(rig[1])):
        if wheel in firm_in(*loaded):
            found += [("firm", *loaded, one, firm_torques(*loaded, wheel), wheel) for one in (course, pair[0])]
            found.append(("firm", *loaded, *pair, wheel))
        else:
            found += [("slack", *loaded, slack_course(*loaded, wheel), one, wheel) for one in (torques, pair[1])]
            found.append(("slack", *loaded, *pair, wheel))
    for shaft in shafts_of(rig):
        if is_settled_in(*loaded, shaft):
            settling = settling_weights(*loaded, shaft)
            found += [("settled", *loaded, one, pair[1], shaft, settling) for one in (course, pair[0])]
        else:
            courses = two_courses(*loaded, shaft)
            found += [("unlike", *loaded, *courses, one, shaft) for one in (torques, pair[1])]
    return found


@lru_cache(maxsize=None)
def all_records():
    return [record for case in load_cases() for record in own_records(*case)]


def records_of(word, many):
    """Some of the right records of this form."""
    return spread([record for record in all_records() if record[0] == word], many)


class RecordTest(LoadTest):
    def gives(self, record, expected):
        before = repr(record)
        found = judge(record)
        self.assertEqual(repr(found), repr(expected), record)
        self.assertEqual(repr(record), before)

    def agrees(self, record):
        """Check that the judge and the conditions of the document say the same, and return it."""
        expected = verdict(record)
        self.gives(record, expected)
        return expected

    def agrees_on_changes(self, records):
        """Change each place behind the rig of the records, and return all verdicts that came of it."""
        found = set()
        for record in records:
            for path, node in nodes(record):
                if path and path[0] > 1:
                    for value in changed(node):
                        found.add(self.agrees(replaced(record, path, value)))
        return found


class FormTest(RecordTest):
    def test_what_is_no_record(self):
        for word in LENGTHS:
            for record in records_of(word, 4):
                for wrong in (record[:-1], (*record, 0), (*record, record[-1]), record[:1], record[:2], ()):
                    self.fails(NotARecord, judge, wrong)
                for wrong in (list(record), (record,), [record], record[1:], (*record[1:], 0), (0, *record[1:])):
                    self.fails(NotARecord, judge, wrong)
                for other in ("", "Barred", "barred ", "held", "shift", None, True, 0, (), [], [word], (word,), [[]]):
                    self.fails(NotARecord, judge, (other, *record[1:]))
                self.gives(record, RIGHT)

    def test_other_values(self):
        for value in (*ODD_VALUES, *NEVER, "barred", ("barred",), ["carried", RIG], (((("barred",),),),)):
            self.fails(NotARecord, judge, value)

    def test_each_number_of_entries(self):
        for word, right in LENGTHS.items():
            for many in range(11):
                for value in (None, 0, RIG):
                    wrong = (word, *(value for _ in range(many - 1)))[:many]
                    if many != right:
                        self.fails(NotARecord, judge, wrong)
                    elif value != RIG:
                        self.fails(InvalidRig, judge, wrong)
                    else:
                        self.gives(wrong, ("wrong", 0))

    def test_wrong_rigs(self):
        for wrong in (*WRONG_RIGS, *ODD_VALUES):
            for word, many in LENGTHS.items():
                self.fails(InvalidRig, judge, (word, wrong, *((None,) * (many - 2))))
            self.fails(InvalidRig, judge, ("carried", wrong, (), (0, 1), (10, 0, 3), OWN))
            self.fails(NotARecord, judge, ("carried", wrong, (), (0, 1), (10, 0, 3)))
            self.fails(NotARecord, judge, ("carriedx", wrong, (), (0, 1), (10, 0, 3), OWN))
            self.fails(NotARecord, judge, ["carried", wrong, (), (0, 1), (10, 0, 3), OWN])

    def test_certificates_are_no_records(self):
        for certificate in kind_certificates()[::15]:
            self.fails(NotARecord, judge, certificate)
            self.fails(NotARecord, judge, (certificate[0], (certificate[1], ()), *certificate[2:]))
        for wrong in (("shift", PLANET, [(0,)]), ("cheapest", PLANET, (0,), (1, 1))):
            self.fails(NotARecord, judge, wrong)

    def test_records_are_no_certificates(self):
        for word in LENGTHS:
            for record in records_of(word, 5):
                self.fails(NotACertificate, check, record)
                self.fails(NotACertificate, check, (word, record[1][0], *record[2:]))

    def test_any_value_as_an_entry(self):
        for first, second in product(ODD_VALUES, repeat=2):
            self.agrees(("barred", ONE_WAY, first, second))
            for word in ("slipping", "carried"):
                self.agrees((word, ONE_WAY, (), first, second, first))
                self.agrees((word, ONE_WAY, (), (0, 1), first, second))
                self.agrees((word, ONE_WAY, (), (0, 1), (10, 0, 3), second))
            for word in ("firm", "slack"):
                self.agrees((word, ONE_WAY, first, second, first, second, first))
                self.agrees((word, ONE_WAY, (), (0, 1), (10, 0, 3), first, second))
            self.agrees(("firm", ONE_WAY, (), (0, 1), (10, 0, 3), OWN, second))
            self.agrees(("settled", ONE_WAY, (), (0, 1), (10, 0, 3), OWN, first, second))
            self.agrees(("settled", ONE_WAY, (), (0, 1), (10, 0, 3), OWN, 1, (first, second)))
            self.agrees(("unlike", ONE_WAY, (), (0, 1), (10, 0, 3), first, OWN, second))
            self.agrees(("unlike", ONE_WAY, (), (0, 1), first, (10, 0, 3), OWN, second))


class BarredTest(RecordTest):
    def test_right(self):
        for word, rig, engaged, bars in records_of("barred", 400):
            self.gives((word, rig, engaged, bars), RIGHT)
            scale, weights, holds = bars
            self.gives((word, rig, engaged, (scale, by(10**900, weights), by(10**900, holds))), RIGHT)

    def test_each_condition(self):
        for word, rig, engaged, bars in records_of("barred", 40):
            for wrong in wrong_engaged(rig[0]):
                self.gives((word, rig, wrong, bars), ("wrong", 0))
                self.gives((word, rig, wrong, None), ("wrong", 0))
            for wrong in (None, (0, *bars[1:]), list(bars), bars[:2], (*bars, 0), (1, by(-1, bars[1]), bars[2])):
                self.agrees((word, rig, engaged, wrong))
            self.gives((word, rig, engaged, (1, by(0, bars[1]), by(0, bars[2]))), ("wrong", 1))

    def test_by_hand(self):
        self.gives(("barred", FORWARDS, (), (1, (-1, 0, 0, 0), (20,))), RIGHT)
        self.gives(("barred", FORWARDS, (), (1, (-1, 0, 0, 0), (21,))), ("wrong", 1))
        self.gives(("barred", FORWARDS, (), (1, (1, 0, 0, 0), (20,))), ("wrong", 1))
        self.gives(("barred", FORWARDS, (0,), (1, (-1, 30, 0, 0), (-10,))), ("wrong", 1))
        self.gives(("barred", FORWARDS, (0,), (1, (-1, 30, 0, 0), (0,))), ("wrong", 1))
        self.gives(("barred", FORWARDS, (0,), (1, (-1, 20, 0, 0), (0,))), RIGHT)
        self.gives(("barred", FORWARDS, (), (1, (-1, 20, 0, 0), (0,))), ("wrong", 1))

    def test_changes(self):
        self.assertEqual(self.agrees_on_changes(records_of("barred", 45)), {RIGHT} | wrongs(2))


class SlippingTest(RecordTest):
    def test_right(self):
        for word, *loaded, course, drift in records_of("slipping", 400):
            self.gives((word, *loaded, course, drift), RIGHT)
            self.gives((word, *loaded, by(7, course), by(10**900, drift)), RIGHT)
            self.gives((word, *loaded, plus(course, drift), drift), RIGHT)

    def test_each_condition(self):
        for word, rig, engaged, burdens, course, drift in records_of("slipping", 40):
            zeros = by(0, drift)
            for wrong in wrong_engaged(rig[0]):
                self.gives((word, rig, wrong, burdens, course, drift), ("wrong", 0))
                self.gives((word, rig, wrong, None, None, None), ("wrong", 0))
            for wrong in wrong_burdens(rig):
                self.gives((word, rig, engaged, wrong, course, drift), ("wrong", 1))
                self.gives((word, rig, engaged, wrong, drift, course), ("wrong", 1))
            for wrong in (drift, zeros, by(-1, course), list(course), course[:-1], (*course, 0), None):
                self.gives((word, rig, engaged, burdens, wrong, drift), ("wrong", 2))
                self.gives((word, rig, engaged, burdens, wrong, None), ("wrong", 2))
            for wrong in (course, plus(drift, course), list(drift), drift[:-1], (*drift, 0), None):
                self.gives((word, rig, engaged, burdens, course, wrong), ("wrong", 3))
            self.gives((word, rig, engaged, burdens, course, zeros), ("wrong", 4))
            self.gives((word, rig, engaged, by(-1, burdens), course, drift), ("wrong", 4))
            self.gives((word, rig, engaged, by(0, burdens), course, drift), ("wrong", 4))

    def test_changes(self):
        self.assertEqual(self.agrees_on_changes(records_of("slipping", 40)), {RIGHT} | wrongs(5))


class CarriedTest(RecordTest):
    """The conditions that five forms have."""

    def test_right(self):
        for word in ("carried", "firm", "slack", "settled", "unlike"):
            for record in records_of(word, 500):
                self.gives(record, RIGHT)
                self.assertEqual(verdict(record), RIGHT)

    def test_other_least_courses_and_sums(self):
        for word, *loaded, course, torques in records_of("carried", 200):
            scale, weights, holds = torques
            both = (2 * scale, by(2, weights), by(2, holds))
            for other in corners_of(*loaded[:2]):
                self.agrees((word, *loaded, other, torques))
                self.agrees((word, *loaded, plus(course, by(10**900, other)), both))

    def test_by_hand(self):
        for record, expected in (
            (("carried", ONE_WAY, (), (0, 1), (10, 0, 3), OWN), RIGHT),
            (("carried", ONE_WAY, (1,), (0, 1), (1, 1, 1), OWN), ("wrong", 4)),
            (("carried", ONE_WAY, (), (0, 1), (1, 1, 1), OWN), ("wrong", 4)),
            (("carried", ONE_WAY, (), (0, 1), (1, 1, 1), (100, (-1, 0, 0), (69,))), ("wrong", 3)),
            (("carried", ONE_WAY, (), (0, 1), (1, 1, 2), OWN), ("wrong", 2)),
            (("carried", ONE_WAY, (), (0, 1), (0, 0, 0), OWN), ("wrong", 2)),
            (("carried", ONE_WAY, (), (0, 101), (10, 0, 3), OWN), ("wrong", 1)),
            (("carried", ONE_WAY, (2,), (0, 101), (10, 0, 3), OWN), ("wrong", 0)),
            (("firm", ONE_WAY, (), (0, 1), (10, 0, 3), OWN, 0), RIGHT),
            (("firm", ONE_WAY, (), (0, 1), (10, 0, 3), OWN, 1), ("wrong", 5)),
            (("firm", ONE_WAY, (), (0, 1), (10, 0, 3), OWN, False), ("wrong", 5)),
            (("firm", RIG, (), (0, 1), (10, 0, 3), (100, (-1, 0, 0), (70, 0)), 1), ("wrong", 6)),
            (("slack", RIG, (), (0, 1), (10, 0, 3), (100, (-1, 0, 0), (70, 0)), 1), RIGHT),
            (("slack", RIG, (), (0, 1), (10, 0, 3), (100, (-1, 0, 0), (70, 0)), 0), ("wrong", 6)),
            (("slack", RIG, (), (0, 1), (10, 0, 3), (100, (-1, 0, 0), (70, 0)), 2), ("wrong", 5)),
            (("settled", ONE_WAY, (), (0, 1), (10, 0, 3), OWN, 1, ((0, 0, 0), (1,))), RIGHT),
            (("settled", ONE_WAY, (), (0, 1), (10, 0, 3), OWN, 2, ((-1, 0, 0), (70,))), RIGHT),
            (("settled", ONE_WAY, (), (0, 1), (10, 0, 3), OWN, 2, ((1, 0, 0), (-70,))), ("wrong", 7)),
            (("settled", ONE_WAY, (), (0, 1), (10, 0, 3), OWN, 1, ((-1, 0, 0), (70,))), ("wrong", 7)),
            (("settled", ONE_WAY, (), (0, 1), (10, 0, 3), OWN, 1, ((0, 0, 0), (0,))), ("wrong", 7)),
            (("settled", ONE_WAY, (), (0, 1), (10, 0, 3), OWN, 1, ((0, 0, 0), (-1,))), ("wrong", 7)),
            (("settled", ONE_WAY, (), (0, 1), (10, 0, 3), OWN, 1, ((0, 1, 0), (0,))), ("wrong", 6)),
            (("settled", ONE_WAY, (), (0, 1), (10, 0, 3), OWN, 0, ((0, 0, 0), (1,))), ("wrong", 5)),
            (("settled", ONE_WAY, (), (0, 1), (10, 0, 3), OWN, 3, ((0, 0, 0), (1,))), ("wrong", 5)),
            (("unlike", ONE_WAY, (), (0, 0), (10, 0, 3), (1, 1, 1), (1, (0, 0, 0), (0,)), 1), RIGHT),
            (("unlike", ONE_WAY, (), (0, 0), (10, 0, 3), (1, 1, 1), (1, (0, 0, 0), (0,)), 0), ("wrong", 5)),
            (("unlike", ONE_WAY, (), (0, 0), (10, 0, 3), (20, 0, 6), (1, (0, 0, 0), (0,)), 1), ("wrong", 6)),
            (("unlike", ONE_WAY, (), (0, 1), (10, 0, 3), (1, 1, 1), OWN, 1), ("wrong", 4)),
            (("unlike", ONE_WAY, (), (0, 1), (1, 1, 1), (10, 0, 3), OWN, 1), ("wrong", 4)),
            (("unlike", ONE_WAY, (), (0, 0), (10, 0, 3), (1, 1, 2), (1, (0, 0, 0), (0,)), 1), ("wrong", 2)),
            (("unlike", ONE_WAY, (), (0, 0), (10, 0, 4), (1, 1, 1), (1, (0, 0, 0), (0,)), 1), ("wrong", 2)),
        ):
            self.gives(record, expected)
            self.assertEqual(verdict(record), expected)

    def test_locks_of_slack_freewheels(self):
        # Both freewheels have the value 0 in this course, but only the first one a hold.
        rig = ((3, (), ()), (("over", 1, 0), ("over", 2, 1)))
        record = ("settled", rig, (), (1, 0), (1, 1, 1), (1, (), (1, 0)))
        self.gives((*record, 1, ((), (1, 0))), RIGHT)
        self.gives((*record, 2, ((), (1, 1))), ("wrong", 6))
        self.gives((*record, 1, ((), (1, -1))), ("wrong", 6))
        both = ("settled", rig, (), (1, 1), (1, 1, 1), (1, (), (2, 1)))
        self.gives((*both, 2, ((), (1, 1))), RIGHT)
        self.gives((*both, 1, ((), (1, 1))), ("wrong", 7))
        self.gives((*both, 1, ((), (5, 0))), RIGHT)

    def test_the_first_conditions(self):
        for word in ("carried", "firm", "slack", "settled", "unlike"):
            for _, rig, engaged, burdens, *rest in records_of(word, 15):
                for wrong in wrong_engaged(rig[0]):
                    self.gives((word, rig, wrong, burdens, *rest), ("wrong", 0))
                    self.gives((word, rig, wrong, None, *rest), ("wrong", 0))
                for wrong in wrong_burdens(rig):
                    self.gives((word, rig, engaged, wrong, *rest), ("wrong", 1))
                    self.gives((word, rig, engaged, wrong, *(None for _ in rest)), ("wrong", 1))
                course, *behind = rest
                zeros = by(0, course)
                for wrong in (zeros, by(-1, course), list(course), course[:-1], (*course, 0), None):
                    self.gives((word, rig, engaged, burdens, wrong, *behind), ("wrong", 2))
                    self.gives((word, rig, engaged, burdens, wrong, *(None for _ in behind)), ("wrong", 2))
                    if word == "unlike":
                        self.gives((word, rig, engaged, burdens, course, wrong, *behind[1:]), ("wrong", 2))

    def test_the_torques(self):
        for word in ("carried", "firm", "slack", "settled", "unlike"):
            for record in records_of(word, 25):
                at = 6 if word == "unlike" else 5
                scale, weights, holds = record[at]
                others = (0, weights, holds), (scale, weights), (scale, holds, weights), (scale, (weights, holds))
                for wrong in (None, [scale, weights, holds], *others):
                    self.agrees(replaced(record, (at,), wrong))
                for wrong in (list(weights), weights[:-1], (*weights, 0), None):
                    if wrong != weights:
                        self.gives(replaced(record, (at, 1), wrong), ("wrong", 3))
                if any(record[3]):
                    self.gives(replaced(record, (at, 0), scale + 1), ("wrong", 3))

    def test_the_last_entries(self):
        for word in ("firm", "slack"):
            for record in records_of(word, 40):
                for wrong in wrong_wheels(record[1]):
                    self.gives((*record[:-1], wrong), ("wrong", 5))
                other = "slack" if word == "firm" else "firm"
                self.gives((other, *record[1:]), ("wrong", 6))
        for word in ("settled", "unlike"):
            for record in records_of(word, 40):
                for wrong in wrong_shafts(record[1][0]):
                    at = 6 if word == "settled" else 7
                    self.gives(replaced(record, (at,), wrong), ("wrong", 5))

    def test_settling(self):
        for record in records_of("settled", 60):
            weights, locks = record[7]
            for wrong in (None, [weights, locks], (weights,), (weights, locks, 0), (list(weights), locks), ()):
                self.gives((*record[:7], wrong), ("wrong", 6))
            for wrong in ((*weights, 0), weights[:-1] or None, (True,) * len(weights) or None):
                self.gives((*record[:7], (wrong, locks)), ("wrong", 6))
            for wrong in ((*locks, 0), locks[:-1] or None, list(locks), (True,) * len(locks) or None):
                self.gives((*record[:7], (weights, wrong)), ("wrong", 6))
            self.gives((*record[:7], (by(-1, weights), by(-1, locks))), ("wrong", 7))
            self.gives((*record[:7], (by(0, weights), by(0, locks))), ("wrong", 7))
            self.gives((*record[:7], (by(10**900, weights), by(10**900, locks))), RIGHT)

    def test_unlike(self):
        for word, *loaded, first, second, torques, shaft in records_of("unlike", 60):
            self.gives((word, *loaded, second, first, torques, shaft), RIGHT)
            self.gives((word, *loaded, first, by(3, first), torques, shaft), ("wrong", 6))
            self.gives((word, *loaded, by(3, second), second, torques, shaft), ("wrong", 6))
            self.gives((word, *loaded, plus(first, second), second, torques, shaft), RIGHT)
            for other in shafts_of(loaded[0]):
                self.agrees((word, *loaded, first, second, torques, other))

    def test_a_course_that_is_no_least_one(self):
        found = set()
        for word in ("carried", "firm", "slack", "settled", "unlike"):
            for record in records_of(word, 60):
                for course in corners_of(*record[1:3]):
                    found.add((word, self.agrees(replaced(record, (4,), course))))
                    if word == "unlike":
                        found.add((word, self.agrees(replaced(record, (5,), course))))
        for word in ("carried", "firm", "slack", "settled", "unlike"):
            self.assertIn((word, ("wrong", 4)), found)

    def test_changes(self):
        for word, conditions_of_it in (("carried", 5), ("firm", 7), ("slack", 7), ("settled", 8), ("unlike", 7)):
            found = self.agrees_on_changes(records_of(word, 20))
            self.assertEqual(found, {RIGHT} | wrongs(conditions_of_it), word)


class AnotherTest(RecordTest):
    """Right records, but for another set, other burdens or another rig."""

    def test_another_set(self):
        for word in LENGTHS:
            found = set()
            for record in records_of(word, 30):
                for other in spread(engaged_sets(record[1][0]), 12):
                    found.add(self.agrees(replaced(record, (2,), other)))
            self.assertGreater(len(found), 1, word)

    def test_another_rig(self):
        for word in LENGTHS:
            found = set()
            for record in records_of(word, 12):
                for other in (*LOADED[::5], (record[1][0], ()), (record[1][0], record[1][1][1:])):
                    found.add(self.agrees(replaced(record, (1,), other)))
            self.assertGreater(len(found), 2, word)

    def test_another_form(self):
        for first, second in product(LENGTHS, repeat=2):
            if LENGTHS[first] == LENGTHS[second]:
                for record in records_of(first, 25):
                    self.agrees((second, *record[1:]))

    def test_other_burdens(self):
        for word in ("slipping", "carried", "settled", "unlike"):
            for record in records_of(word, 25):
                many = record[1][0][0] - 1
                for other in ((0,) * many, (100,) * many, by(-1, record[3]), record[3][::-1]):
                    self.agrees(replaced(record, (3,), other))


class MainPromiseTest(RecordTest):
    def test_all_that_the_program_returns_is_right(self):
        words = {}
        for record in all_records():
            self.gives(record, RIGHT)
            words[record[0]] = words.get(record[0], 0) + 1
        self.assertEqual(set(words), set(LENGTHS))
        self.assertGreater(min(words.values()), 200)

    def candidates(self, rig, engaged, burdens):
        """Records of the three states, of what the program returns for this set and for others."""
        courses, drifts, torques = [(0,) * rig[0][0]], [(0,) * rig[0][0]], []
        for other in spread(engaged_sets(rig[0]), 6) + [engaged]:
            bars, slip, carry = bars_of(rig, other), slip_of(rig, other, burdens), carry_of(rig, other, burdens)
            torques += [value for value in (bars, carry and carry[1]) if value]
            courses += [value[0] for value in (slip, carry) if value]
            drifts += [slip[1]] if slip else []
        found = [("barred", rig, engaged, value) for value in torques]
        found += [("slipping", rig, engaged, burdens, *pair) for pair in product(courses, drifts)]
        return found + [("carried", rig, engaged, burdens, *pair) for pair in product(courses, torques)]

    def test_exactly_one_state_has_a_right_record(self):
        for case in spread(load_cases(), 700):
            right = {record[0] for record in self.candidates(*case) if judge(record) == RIGHT}
            self.assertEqual(right, {state_in(*case)}, case)

    def test_bending_rigs(self):
        for rig, burdens, shaft in BENT:
            for burden in (-100, -19, -4, 0, 3, 100):
                bent = burdens[: shaft - 1] + (burden,) + burdens[shaft:]
                for record in own_records(rig, (), bent):
                    self.gives(record, RIGHT)

    def test_firm_and_slack_exclude_one_another(self):
        for rig, engaged, burdens in spread(cases_of("carried"), 200):
            course, torques = carry_of(rig, engaged, burdens)
            pair = parted_pair(rig, engaged, burdens)
            courses = [course, pair[0], *corners_of(rig, engaged)]
            for wheel in range(len(rig[1])):
                right = set()
                for word, one, other in product(("firm", "slack"), courses, (torques, pair[1])):
                    if self.agrees((word, rig, engaged, burdens, one, other, wheel)) == RIGHT:
                        right.add(word)
                self.assertEqual(right, {"firm" if wheel in firm_in(rig, engaged, burdens) else "slack"})

    def test_same_again(self):
        records = [record for word in LENGTHS for record in records_of(word, 60)]
        before = [judge(record) for record in records]
        again = [judge(copied(record)) for record in reversed(records)]
        self.assertEqual(again[::-1], before)
        for record in records:
            self.assertIs(type(judge(record)), tuple)
        self.gives(("carried", OPPOSED, (), (0, 0), (1, 1, 1), (1, (0, 0), (0, 0, 0))), RIGHT)


if __name__ == "__main__":
    unittest.main()
