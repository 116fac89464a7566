"""What the tests of loaded rigs share: sample rigs with burdens, and an own search for least courses and drifts.

The search owes nothing to the program: it tries each choice of freewheels that have the value 0.
"""

from fractions import Fraction
from functools import lru_cache
from itertools import combinations
from math import gcd

from planetbox.errors import InvalidEngaged, InvalidShaft
from planetbox.wrongs import InvalidBurdens, InvalidRig, InvalidWheel, NotCarried
from tests.rig_support import LEVER, RIGS, WRONG_RIGS, is_course_of, is_drift_of, made_wheels, row_of_wheel
from tests.rig_support import values_of
from tests.support import CHAIN, NEVER, ODD_VALUES, PLANET, SAMPLES, BoxTest, a_few, basis_of, dot, engaged_sets
from tests.support import null_of, numbers, part_count, rows_of, sum_of, unit, wrong_engaged, wrong_rows, wrong_shafts

MESHED = (3, (("mesh", 0, 20, 1, 20),), (("brake", 1), ("clutch", 1, 2), ("brake", 2)))
ONE_WAY = (PLANET, (("back", 1),))
# Burdens with which no device engaged slips there: the drift of its brakeless planet set is (0, 10, 7).
SLIPS = (NotCarried, 2, ((0, -1), (-1, 0), (-100, -100), (-1, 1), (2, -3), (69, -100)))
FORWARDS = (MESHED, (("back", 1),))
OPPOSED = ((3, (), (("clutch", 0, 1), ("clutch", 1, 2))), (("over", 1, 2), ("over", 2, 1), ("over", 0, 1)))
FOUR = ((4, (), (("clutch", 0, 3), ("brake", 2))), (("over", 1, 0), ("over", 1, 2), ("over", 2, 3), ("back", 3)))
EIGHT = (8, (("planet", 0, 30, 1, 70, 2), ("planet", 2, 25, 3, 50, 4), ("inner", 4, 20, 5, 30)), CHAIN[2][4:])


def let_wheels(box, engaged, seed, many):
    """Make up freewheels that let some motion of the engaged set be, with the input turning forward if it can."""
    stream = numbers(seed)
    basis = basis_of(box, engaged)
    factors = [next(stream) % 7 - 3 for _ in basis]
    speeds = tuple(dot(factors, [one[shaft] for one in basis]) for shaft in range(box[0]))
    if speeds[0] < 0:
        speeds = tuple(-entry for entry in speeds)
    found = []
    while len(found) < many:
        first, second = next(stream) % box[0], next(stream) % (box[0] + 1)
        if found and next(stream) % 6 == 0:
            found.append(found[next(stream) % len(found)])
        elif second == box[0]:
            found.append(("back", first) if speeds[first] >= 0 else ("over", 0, first))
        elif first != second:
            found.append(("over", first, second) if speeds[first] >= speeds[second] else ("over", second, first))
    return tuple(found)


def let_rigs():
    """Rigs of all sample boxes, each with freewheels that let some motion be."""
    found = []
    for at, box in enumerate((*SAMPLES.values(), LEVER, EIGHT, EIGHT, CHAIN, MESHED)):
        sets = engaged_sets(box)
        found.append((box, let_wheels(box, sets[at % max(1, len(sets) // 4)], at, at % 7)))
    return found


# Rigs whose least work bends three or four times with the burden of one shaft, with burdens and this shaft.
BENT = [
    (
        (
            (6, (("planet", 0, 8, 3, 17, 1), ("planet", 2, 15, 1, 49, 4), ("planet", 1, 14, 5, 28, 0)), ()),
            (("over", 1, 2), ("back", 3), ("over", 0, 1), ("over", 1, 3), ("back", 4), ("back", 4)),
        ),
        (19, 15, 0, 0, 0),
        2,
    ),
    (
        (
            (
                8,
                (("planet", 1, 44, 3, 21, 0), ("planet", 0, 36, 4, 36, 1), ("planet", 5, 31, 0, 52, 4))
                + (("planet", 2, 26, 1, 24, 6), ("planet", 4, 25, 7, 11, 2)),
                (("clutch", 0, 7), ("brake", 5), ("clutch", 2, 6)),
            ),
            (("back", 6), ("back", 0), ("over", 0, 7), ("back", 3), ("back", 5), ("over", 4, 7)),
        ),
        (8, 4, 0, 0, 0, 0, 0),
        2,
    ),
    (
        (
            (
                8,
                (("planet", 0, 54, 3, 45, 1), ("planet", 3, 31, 2, 11, 4), ("planet", 1, 47, 5, 7, 2))
                + (("planet", 2, 31, 6, 49, 4), ("planet", 7, 19, 3, 19, 5)),
                (("brake", 7), ("clutch", 0, 1)),
            ),
            (("over", 0, 2), ("over", 2, 3), ("back", 7), ("back", 5), ("back", 7), ("back", 4)),
        ),
        (-2, 16, 0, 0, 0, 0, 0),
        1,
    ),
]
LOADED = [*RIGS, *(rig for rig, _, _ in BENT), ONE_WAY, FORWARDS, OPPOSED, FOUR]
LOADED += [(MESHED, ()), (MESHED, made_wheels(MESHED, 5, 2)), *let_rigs()]


def spread(values, many):
    """So many of the values, from all parts of the list."""
    return values[:: max(1, -(-len(values) // many))]


@lru_cache(maxsize=None)
def set_cases():
    """Pairs of a rig and an engaged set: of each rig more sets that have a course, if it has such sets."""
    found = []
    for rig in LOADED:
        sets = spread(engaged_sets(rig[0]), 20)
        found += [(rig, engaged) for engaged in spread([one for one in sets if corners_of(rig, one)], 7)]
        found += [(rig, engaged) for engaged in spread([one for one in sets if not corners_of(rig, one)], 2)]
    return found


def balanced(rig, engaged, seed):
    """Burdens that some torques are right for, if none of them is too great: small weights and holds."""
    stream = numbers(seed)
    total = [0] * rig[0][0]
    rows = [row for row in rows_of(rig[0], engaged)]
    rows = [tuple(entry // gcd(*row) for entry in row) for row in rows]
    factors = [next(stream) % 9 - 4 for _ in rows]
    rows += [row_of_wheel(rig, wheel) for wheel in range(len(rig[1]))]
    factors += [max(0, next(stream) % 12 - 4) for _ in rig[1]]
    for row, factor in zip(rows, factors):
        added = [entry + factor * other for entry, other in zip(total, row)]
        if max(map(abs, added)) <= 100:
            total = added
    return tuple(total[1:])


def burdens_for(rig, engaged, seed):
    """Some burdens of the rig."""
    many = rig[0][0] - 1
    stream = numbers(seed + 7)
    some = [(0,) * many, (-100,) * many, (100,) * many, unit(rig[0], 1 + seed % many)[1:]]
    free = tuple(next(stream) % 201 - 100 for _ in range(many))
    small = tuple(next(stream) % 3 - 1 for _ in range(many))
    if not corners_of(rig, engaged):
        return [some[seed % len(some)], free]
    return [some[seed % len(some)], free, small, balanced(rig, engaged, seed), balanced(rig, engaged, seed + 1)]


@lru_cache(maxsize=None)
def load_cases():
    """Triples of a rig, an engaged set and burdens."""
    found = []
    for at, (rig, engaged) in enumerate(set_cases()):
        found += [(rig, engaged, burdens) for burdens in burdens_for(rig, engaged, at)]
    return list(dict.fromkeys(found))


def rows_at(rig, engaged, wheels):
    """The equations of an engaged set, and those by which these freewheels have the value 0."""
    return rows_of(rig[0], engaged) + tuple(row_of_wheel(rig, wheel) for wheel in wheels)


def choices_of(rig):
    many = len(rig[1])
    return [choice for size in range(many + 1) for choice in combinations(range(many), size)]


@lru_cache(maxsize=None)
def corners_of(rig, engaged):
    """Courses, each without a divisor, of which and of drifts all courses are sums of fractions from 0 on.

    They are the courses in which some freewheels have the value 0, such that no value can change any more.
    """
    found = []
    for choice in choices_of(rig):
        rows = rows_at(rig, engaged, choice)
        moving = [speeds for speeds in null_of(rows, rig[0][0]) if speeds[0]]
        still = null_of(rows + (unit(rig[0], 0),), rig[0][0])
        if not moving or any(any(values_of(rig, speeds)) for speeds in still):
            continue
        speeds = moving[0] if moving[0][0] > 0 else tuple(-entry for entry in moving[0])
        if min(values_of(rig, speeds), default=0) >= 0:
            found.append(speeds)
    return list(dict.fromkeys(found))


@lru_cache(maxsize=None)
def drifts_of(rig, engaged):
    """Drifts of which all drifts are sums of fractions from 0 on."""
    width = rig[0][0]
    lines = null_of(rows_at(rig, engaged, range(len(rig[1]))) + (unit(rig[0], 0),), width)
    found = [*lines, *(tuple(-entry for entry in speeds) for speeds in lines)]
    for choice in choices_of(rig):
        still = null_of(rows_at(rig, engaged, choice) + (unit(rig[0], 0),), width)
        if len(still) == len(lines) + 1:
            speeds = next(speeds for speeds in still if any(values_of(rig, speeds)))
            for one in (speeds, tuple(-entry for entry in speeds)):
                if min(values_of(rig, one)) >= 0:
                    found.append(one)
    return list(dict.fromkeys(found))


def load_of(burdens, speeds):
    return dot(burdens, speeds[1:])


def work_of(burdens, course):
    return Fraction(load_of(burdens, course)) / course[0]


def state_in(rig, engaged, burdens):
    """The state, by the own search. The burdens may be fractions here and below."""
    if not corners_of(rig, engaged):
        return "barred"
    if any(load_of(burdens, drift) < 0 for drift in drifts_of(rig, engaged)):
        return "slipping"
    return "carried"


def least_in(rig, engaged, burdens):
    """The least work of a carried set, a number."""
    return min(work_of(burdens, course) for course in corners_of(rig, engaged))


def face_of(rig, engaged, burdens):
    """Least courses, and drifts without load, of which all least courses of a carried set are sums."""
    least = least_in(rig, engaged, burdens)
    courses = [course for course in corners_of(rig, engaged) if work_of(burdens, course) == least]
    return courses, [drift for drift in drifts_of(rig, engaged) if load_of(burdens, drift) == 0]


def firm_in(rig, engaged, burdens):
    """The firm freewheels of a carried set."""
    courses, idle = face_of(rig, engaged, burdens)
    values = [values_of(rig, speeds) for speeds in courses + idle]
    return tuple(wheel for wheel in range(len(rig[1])) if not any(entries[wheel] for entries in values))


def ratios_in(rig, engaged, burdens, shaft):
    """The speeds of a shaft, for one turn of the input, in some least courses: more than one if it is not settled."""
    courses, idle = face_of(rig, engaged, burdens)
    found = {Fraction(course[shaft], course[0]) for course in courses}
    return found | {Fraction(courses[0][shaft], courses[0][0]) + drift[shaft] for drift in idle}


def is_settled_in(rig, engaged, burdens, shaft):
    return len(ratios_in(rig, engaged, burdens, shaft)) == 1


def cases_of(*words):
    """The sample rigs, engaged sets and burdens in one of these states."""
    return [case for case in load_cases() if state_in(*case) in words]


def plus(first, second):
    return tuple(one + other for one, other in zip(first, second))


def by(factor, row):
    return tuple(factor * entry for entry in row)


def added_sum(rig, weights, holds):
    """The sum of weights and holds, shaft by shaft, as point 21 words it."""
    total = list(sum_of(rig[0], weights))
    for wheel, hold in zip(rig[1], holds):
        total[wheel[1]] += hold
        if wheel[0] == "over":
            total[wheel[2]] -= hold
    return tuple(total)


def are_ints(value, many):
    return type(value) is tuple and len(value) == many and all(type(entry) is int for entry in value)


def fit(box, engaged, value):
    """Whether the value is weights for the engaged set."""
    gears = len(box[1])
    return are_ints(value, part_count(box)) and all(
        value[gears + device] == 0 for device in range(len(box[2])) if device not in engaged
    )


def are_torques_of(rig, engaged, value):
    """Whether the value is torques, as point 21 words it."""
    if type(value) is not tuple or len(value) != 3 or type(value[0]) is not int or value[0] < 1:
        return False
    if not fit(rig[0], engaged, value[1]) or not are_ints(value[2], len(rig[1])):
        return False
    return all(hold >= 0 for hold in value[2])


def are_right_of(rig, engaged, burdens, value):
    if not are_torques_of(rig, engaged, value):
        return False
    return added_sum(rig, *value[1:])[1:] == tuple(value[0] * burden for burden in burdens)


def are_bars_of(rig, engaged, value):
    if not are_torques_of(rig, engaged, value):
        return False
    total = added_sum(rig, *value[1:])
    return total[0] < 0 and not any(total[1:])


def pull_of(rig, torques):
    return Fraction(-added_sum(rig, *torques[1:])[0], torques[0])


def part_ways(rig, course, torques):
    """Whether every freewheel has the hold 0, or the value 0 in the course."""
    return all(hold == 0 or entry == 0 for hold, entry in zip(torques[2], values_of(rig, course)))


def are_settling_of(rig, engaged, slack, shaft, value):
    """Whether the value is settling weights, as point 24 words it, if these freewheels are the slack ones."""
    if type(value) is not tuple or len(value) != 2:
        return False
    weights, locks = value
    if not fit(rig[0], engaged, weights) or not are_ints(locks, len(rig[1])):
        return False
    total = added_sum(rig, weights, locks)
    others = [entry for other, entry in enumerate(total) if other not in (0, shaft)]
    return not any(locks[wheel] for wheel in slack) and total[shaft] > 0 and not any(others)


def shafts_of(rig):
    """The shafts other than the input."""
    return range(1, rig[0][0])


def wrong_wheels(rig):
    """Values that are not numbers of freewheels."""
    many = len(rig[1])
    odd = [value for value in ODD_VALUES if type(value) is not int or not 0 <= value < many]
    return [*odd, many, many + 1, -many - 1, "1", (), (0, 1), [1], ("back", 1), 10**999]


def wrong_burdens(rig):
    return wrong_rows(rig[0][0] - 1, -100, 100)


# Values that are not fractions.
WRONG_FRACTIONS = (
    *ODD_VALUES,
    *NEVER,
    (2, 4),
    (-2, 4),
    (0, 2),
    (0, 0),
    (0, -1),
    (1, 0),
    (1, -1),
    (3, -10),
    (10**30, 10**31),
    (True, 1),
    (1, True),
    (False, 1),
    (1, None),
    (None, 1),
    ("1", 2),
    (1, "2"),
    (1,),
    (1, 2, 3),
    (1, 2, 1),
    [1, 2],
    ((1, 2),),
    ((1,), 2),
    1,
    0,
    "1/2",
)


def of_tuples(value):
    """Whether the value is made of tuples and integers alone."""
    if type(value) is tuple:
        return all(of_tuples(entry) for entry in value)
    return type(value) is int


class LoadTest(BoxTest):
    """Checks that the tests of loaded rigs use."""

    def is_fraction(self, value):
        """Check that the value is a fraction, and return it as a number."""
        self.is_integer_tuple(value, 2)
        self.assertGreater(value[1], 0)
        self.assertEqual(gcd(*value), 1)
        return Fraction(*value)

    def is_a_course(self, rig, engaged, value):
        self.assertTrue(is_course_of(rig, engaged, value), (rig, engaged, value))

    def is_a_drift(self, rig, engaged, value):
        self.assertTrue(is_drift_of(rig, engaged, value), (rig, engaged, value))

    def are_right_torques(self, rig, engaged, burdens, value):
        self.assertTrue(are_right_of(rig, engaged, burdens, value), (rig, engaged, burdens, value))

    def show_the_least_work(self, rig, engaged, burdens, course, torques):
        """Check that these are a least course and carrying torques, and return the least work."""
        self.is_a_course(rig, engaged, course)
        self.are_right_torques(rig, engaged, burdens, torques)
        self.assertTrue(part_ways(rig, course, torques), (rig, engaged, burdens, course, torques))
        self.assertEqual(work_of(burdens, course), pull_of(rig, torques))
        return work_of(burdens, course)

    def checks_loaded(self, function, *lasts, steps=()):
        """Check the errors of a function of a rig, an engaged set and burdens in their order.

        The lasts are right arguments behind these; the steps tell of their errors and of NotCarried.
        """
        self.checks_order(
            function,
            (ONE_WAY, (), (0, 1), *lasts),
            (InvalidRig, 0, (*WRONG_RIGS, *ODD_VALUES)),
            (InvalidEngaged, 1, wrong_engaged(PLANET)),
            (InvalidBurdens, 2, wrong_burdens(ONE_WAY)),
            *steps,
        )

    def checks_last(self, error, name, function, wrongs_of, *others):
        """Check the error of the last argument, with its value, in front of NotCarried."""
        for rig, engaged, burdens in a_few(cases_of("carried")) + a_few(cases_of("barred", "slipping")):
            for wrong in wrongs_of(rig):
                self.fails_with(error, name, wrong, function, rig, engaged, burdens, wrong, *others)

    def checks_wheel(self, function):
        self.checks_last(InvalidWheel, "wheel", function, wrong_wheels)

    def checks_shaft(self, function, *others):
        self.checks_last(InvalidShaft, "shaft", function, lambda rig: wrong_shafts(rig[0]), *others)

    def checks_not_carried(self, function, lasts_of=None):
        """Check NotCarried for all sets that are not carried, with each right last argument."""
        for rig, engaged, burdens in cases_of("barred", "slipping"):
            for last in [()] if lasts_of is None else [(last,) for last in lasts_of(rig)]:
                self.fails(NotCarried, function, rig, engaged, burdens, *last)
