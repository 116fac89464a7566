"""What several tests share: sample boxes, wrong values, and a count of ranks that owes nothing to the program."""

import unittest
from fractions import Fraction
from functools import lru_cache
from itertools import combinations, product
from math import gcd, lcm

from planetbox.errors import InvalidBox, InvalidEngaged

PLANET = (3, (("planet", 0, 30, 1, 70, 2),), (("brake", 1), ("clutch", 0, 2)))
CHAIN = (8, (), tuple(("clutch", k, k + 1) for k in range(7)) + (("brake", 7),))


def ring(teeth, others):
    """Six wheels inside rings around a circle of shafts.

    They move only if both products of all teeth are equal: exact numbers tell them from products that differ by 1.
    """
    return tuple(("inner", k, teeth[k], (k + 1) % 6, others[k]) for k in range(6))


SAMPLES = {
    "planet": PLANET,
    "bare": (2, (), ()),
    "bare of eight shafts": (8, (), ()),
    "one clutch": (2, (), (("clutch", 0, 1),)),
    "brakes on both shafts": (2, (), (("clutch", 0, 1), ("brake", 0), ("brake", 1))),
    "equal devices": (
        3,
        (("planet", 0, 30, 1, 70, 2),),
        (("brake", 1), ("brake", 1), ("clutch", 0, 2), ("clutch", 0, 2), ("clutch", 1, 2)),
    ),
    "driven by its gears": (
        3,
        (("mesh", 0, 20, 1, 40), ("inner", 1, 15, 2, 60)),
        (("brake", 0), ("clutch", 0, 1), ("brake", 2)),
    ),
    "driven by its gears, no device": (3, (("mesh", 0, 20, 1, 40), ("inner", 1, 15, 2, 60)), ()),
    "held by its gears": (2, (("mesh", 0, 20, 1, 40), ("inner", 0, 20, 1, 40)), (("clutch", 0, 1),)),
    "held by its gears, no device": (2, (("mesh", 0, 20, 1, 40), ("inner", 0, 20, 1, 40)), ()),
    "held by its gears, two shafts free": (
        4,
        (("mesh", 0, 20, 1, 40), ("inner", 1, 40, 0, 20)),
        (("clutch", 0, 1), ("brake", 2), ("clutch", 2, 3)),
    ),
    "held by three meshing wheels": (
        3,
        (("mesh", 0, 20, 1, 20), ("mesh", 1, 20, 2, 20), ("mesh", 0, 20, 2, 20)),
        (("brake", 0),),
    ),
    "a gear twice": (
        3,
        (("planet", 0, 30, 1, 70, 2), ("planet", 0, 60, 1, 140, 2)),
        (("brake", 1), ("clutch", 0, 2), ("brake", 2)),
    ),
    "a gear that is a sum of others": (
        4,
        (("mesh", 0, 20, 1, 40), ("mesh", 1, 10, 2, 30), ("inner", 0, 10, 2, 60)),
        (("clutch", 0, 3), ("brake", 3), ("clutch", 2, 3), ("clutch", 1, 2)),
    ),
    "no full set": (4, (), (("clutch", 0, 1), ("brake", 1), ("brake", 2))),
    "a shaft that stands still": (
        4,
        (("planet", 0, 30, 1, 70, 2),),
        (("brake", 3), ("brake", 1), ("clutch", 0, 2), ("clutch", 2, 3)),
    ),
    "two planet sets": (
        5,
        (("planet", 0, 31, 1, 73, 2), ("planet", 1, 29, 3, 61, 4)),
        (("brake", 1), ("brake", 2), ("brake", 3), ("clutch", 0, 3), ("clutch", 2, 4), ("clutch", 1, 4)),
    ),
    "a device always": (
        4,
        (("planet", 0, 30, 1, 70, 2),),
        (("clutch", 2, 3), ("brake", 1), ("clutch", 0, 1), ("brake", 0)),
    ),
    "chain of eight shafts": CHAIN,
    "eight shafts, eight devices": (
        8,
        (("planet", 0, 197, 1, 199, 2), ("planet", 2, 191, 3, 193, 4), ("planet", 4, 179, 5, 181, 6)),
        (("brake", 1), ("brake", 3), ("brake", 5), ("clutch", 6, 7))
        + (("clutch", 1, 3), ("clutch", 3, 5), ("clutch", 0, 2), ("clutch", 2, 7)),
    ),
    "six gears in a row": (
        8,
        (("planet", 0, 199, 1, 197, 2), ("planet", 1, 193, 2, 191, 3), ("planet", 2, 181, 3, 179, 4))
        + (("planet", 3, 173, 4, 167, 5), ("planet", 4, 163, 5, 157, 6), ("planet", 5, 151, 6, 149, 7)),
        (("brake", 1), ("brake", 7), ("clutch", 1, 3), ("clutch", 2, 7), ("brake", 0)),
    ),
    "great speeds": (
        8,
        (("planet", 1, 177, 7, 179, 4), ("planet", 0, 184, 4, 183, 6), ("planet", 1, 179, 2, 200, 0))
        + (("planet", 0, 177, 7, 154, 5), ("planet", 3, 187, 2, 191, 1), ("planet", 3, 186, 7, 167, 2)),
        (("brake", 7), ("brake", 1), ("clutch", 1, 7), ("clutch", 3, 5)),
    ),
    "held by a hair": (6, ring((101, 103, 149, 106, 157, 113), (181, 47, 123, 161, 143, 121)), (("brake", 3),)),
    "driven by a ring": (6, ring((101, 103, 149, 106, 157, 113), (157, 101, 106, 113, 103, 149)), (("brake", 3),)),
}

WRONG_BOXES = (
    None,
    True,
    0,
    "box",
    (),
    [],
    (3,),
    list(PLANET),
    (1, (), ()),
    (9, (), ()),
    (2, [], ()),
    (2, (), []),
    (2, (), (("clutch", 1, 0),)),
    (3, (("planet", 0, 30, 1, 70, 1),), ()),
    (2, (("mesh", 0, 5, 1, 20),), ()),
)

ODD_VALUES = (
    None,
    True,
    False,
    -1,
    10**40,
    -(10**40),
    "",
    "0",
    "abc",
    [],
    [0],
    [0, 1],
    [[], [[]]],
    (None,),
    ("0",),
    ((),),
    ((0,),),
    ([0],),
    (((((((0,),),),),),),),
)


# What is right in no place of a box or a rig.
NEVER = (None, True, False, "x", "", "0", "mesh ", [], [0], ("x",), (None,), ((),), ((((),),),))


def nodes(value, path=()):
    """All paths into nested tuples and lists, with what stands there."""
    yield path, value
    if isinstance(value, (tuple, list)):
        for at, entry in enumerate(value):
            yield from nodes(entry, (*path, at))


def replaced(value, path, new):
    """The nested tuples and lists with another value at the end of the path."""
    if not path:
        return new
    entries = list(value)
    entries[path[0]] = replaced(entries[path[0]], path[1:], new)
    return type(value)(entries)


def numbers(seed):
    """Yield the same numbers for the same seed on every Python."""
    state = seed
    while True:
        state = (state * 6364136223846793005 + 1442695040888963407) % 2**64
        yield state >> 33


def made_box(seed):
    """Make up a box with up to five shafts, three gears and five devices."""
    stream = numbers(seed)

    def below(limit):
        return next(stream) % limit

    def unlike(many, shafts):
        left = list(range(shafts))
        return [left.pop(below(len(left))) for _ in range(many)]

    def gear(shafts):
        teeth = [6 + below(5), 6 + below(5)]
        if shafts > 2 and below(2):
            sun, ring, carrier = unlike(3, shafts)
            return ("planet", sun, teeth[0], ring, teeth[1], carrier)
        first, second = unlike(2, shafts)
        return (("mesh", "inner")[below(2)], first, teeth[0], second, teeth[1])

    def device(shafts):
        if below(3):
            return ("clutch",) + tuple(sorted(unlike(2, shafts)))
        return ("brake", below(shafts))

    for _ in range(20):
        below(2)
    shafts = 2 + below(4)
    gears = tuple(gear(shafts) for _ in range(below(4)))
    return (shafts, gears, tuple(device(shafts) for _ in range(below(6))))


SAMPLES.update({f"made from {seed}": made_box(seed) for seed in range(1, 41)})


def part_count(box):
    return len(box[1]) + len(box[2])


def row_of(box, part):
    """The coefficients of a part, as point 4 words them."""
    entry = (box[1] + box[2])[part]
    row = [0] * box[0]
    if entry[0] == "brake":
        row[entry[1]] = 1
    elif entry[0] == "clutch":
        row[entry[1]], row[entry[2]] = 1, -1
    elif entry[0] == "planet":
        row[entry[1]], row[entry[3]], row[entry[5]] = entry[2], entry[4], -(entry[2] + entry[4])
    else:
        row[entry[1]] = entry[2]
        row[entry[3]] = entry[4] if entry[0] == "mesh" else -entry[4]
    return tuple(row)


def rows_of(box, engaged):
    gears = len(box[1])
    return tuple(row_of(box, part) for part in (*range(gears), *(gears + device for device in engaged)))


@lru_cache(maxsize=None)
def rank(rows):
    left = [[Fraction(entry) for entry in row] for row in rows]
    count = 0
    while left:
        row = left.pop()
        place = next((at for at, entry in enumerate(row) if entry), None)
        if place is not None:
            count += 1
            left = [[x - other[place] / row[place] * y for x, y in zip(other, row)] for other in left]
    return count


def freedom_of(box, engaged):
    return box[0] - rank(rows_of(box, engaged))


def kind_of(box, engaged):
    rows = rows_of(box, engaged)
    if rank(rows + (unit(box, 0),)) == rank(rows):
        return "held"
    return "driven" if rank(rows) == box[0] - 1 else "loose"


@lru_cache(maxsize=None)
def basis_of(box, engaged):
    """Motions of which all motions are sums of fractions, each without a common divisor."""
    return null_of(rows_of(box, engaged), box[0])


@lru_cache(maxsize=None)
def null_of(rows, width):
    """Integers that make all rows 0, each without a common divisor, of which all others are sums of fractions."""
    rows = [[Fraction(entry) for entry in row] for row in rows]
    columns = []
    for column in range(width):
        place = next((at for at, row in enumerate(rows) if at >= len(columns) and row[column]), None)
        if place is None:
            continue
        lead = rows.pop(place)
        lead = [entry / lead[column] for entry in lead]
        rows = [[x - row[column] * y for x, y in zip(row, lead)] if row[column] else row for row in rows]
        rows.insert(len(columns), lead)
        columns.append(column)
    found = []
    for free in range(width):
        if free not in columns:
            speeds = [Fraction(int(shaft == free)) for shaft in range(width)]
            for at, column in enumerate(columns):
                speeds[column] = -rows[at][free]
            scale = lcm(*(speed.denominator for speed in speeds))
            found.append(tuple(int(speed * scale) for speed in speeds))
    return tuple(tuple(entry // gcd(*speeds) for entry in speeds) for speeds in found)


def speeds_of(box, engaged):
    """The speeds of all shafts of a driven set for one turn of the input."""
    (only,) = basis_of(box, engaged)
    return [Fraction(entry, only[0]) for entry in only]


def unit(box, shaft):
    return tuple(int(other == shaft) for other in range(box[0]))


def needless_of(box, engaged):
    free = freedom_of(box, engaged)
    return tuple(d for d in engaged if freedom_of(box, less(engaged, d)) == free)


def is_full_of(box, engaged):
    return kind_of(box, engaged) == "driven" and needless_of(box, engaged) == ()


@lru_cache(maxsize=None)
def full_sets_of(box):
    return sorted(engaged for engaged in engaged_sets(box) if is_full_of(box, engaged))


def is_swap(first, second):
    """Whether the second set is made from the first by releasing one device and engaging another one."""
    return len(set(first) - set(second)) == 1 and len(set(second) - set(first)) == 1


def less(engaged, device):
    return tuple(other for other in engaged if other != device)


def more(engaged, device):
    return tuple(sorted(engaged + (device,)))


@lru_cache(maxsize=None)
def engaged_sets(box):
    """All engaged sets of a box, the smaller ones first."""
    many = len(box[2])
    return [choice for size in range(many + 1) for choice in combinations(range(many), size)]


def cases(*kinds):
    """All pairs of a sample box and an engaged set of it that is of one of the kinds (of any, if none is named)."""
    found = []
    for box in SAMPLES.values():
        found += [(box, engaged) for engaged in engaged_sets(box) if not kinds or kind_of(box, engaged) in kinds]
    return found


def full_cases():
    """All pairs of a sample box and a full set of it."""
    return [(box, engaged) for box in SAMPLES.values() for engaged in full_sets_of(box)]


def dot(row, speeds):
    return sum(x * y for x, y in zip(row, speeds))


def obeys(box, engaged, speeds):
    return all(dot(row, speeds) == 0 for row in rows_of(box, engaged))


def divisor(row):
    return gcd(*row)


def sum_of(box, weights):
    """The sum of weights, shaft by shaft."""
    total = [0] * box[0]
    for part, weight in enumerate(weights):
        for shaft, entry in enumerate(row_of(box, part)):
            total[shaft] += weight * entry
    return tuple(total)


def wrong_engaged(box):
    """Values that are not engaged sets of the box."""
    many = len(box[2])
    found = list(ODD_VALUES) + [0, (many,), (-1,), (many + 5,), (True,), (False,), [*range(many)]]
    if many:
        found += [(0, 0), (0, many), (0, "1"), (0, None), (0, [1])]
    if many > 1:
        found += [(1, 0), (0, 1, 1), (0, 1, 0), (False, 1), (0, True)]
    return found


def wrong_shafts(box):
    """Values that are not shafts other than the input."""
    return list(ODD_VALUES) + [0, box[0], box[0] + 1, (), (1,), "1"]


def not_full_cases():
    """All pairs of a sample box and an engaged set of it that is not full."""
    return [(box, engaged) for box, engaged in cases() if not is_full_of(box, engaged)]


def wrong_numbers(least, most):
    """Values that are not integers from the least to the most."""
    inside = [value for value in ODD_VALUES if type(value) is int]
    return [value for value in ODD_VALUES if value not in inside or not least <= value <= most] + [
        least - 1,
        most + 1,
        least - 1000,
        most * 1000 + 1000,
        str(most),
        (least,),
        [most],
    ]


def wrong_rows(many, least, most):
    """Values that are not tuples of so many integers from the least to the most."""
    right = (least,) * many
    found = [value for value in ODD_VALUES if value != right] + [list(right), str(least) * many, many, least]
    found += [right + (least,), right + (None,)]
    if many:
        found += [right[1:], (most,) * (many - 1), (right,), [right]]
    for place in range(many):
        for wrong in (least - 1, most + 1, 10**30, -(10**30), True, False, None, str(most), (), (least,), [least]):
            found.append(right[:place] + (wrong,) + right[place + 1 :])
    return found


def a_few(values):
    """Some of the values, from all parts of the list."""
    return values[:: max(1, len(values) // 3)]


def copied(value):
    """An equal value, a box or a rig, say, of which all tuples are made anew."""
    return tuple([copied(entry) for entry in value]) if isinstance(value, tuple) else value


class BoxTest(unittest.TestCase):
    """Checks that the tests of all modules use."""

    def fails(self, error, function, *arguments):
        """Check that the call raises an error of exactly this class, changes nothing, and return the error."""
        before = repr(arguments)
        with self.assertRaises(error, msg=f"{function.__name__}{before}") as caught:
            function(*arguments)
        self.assertIs(type(caught.exception), error)
        self.assertEqual(repr(arguments), before)
        return caught.exception

    def fails_with(self, error, name, value, function, *arguments):
        """Check the error, and that it keeps the value in the attribute of this name."""
        caught = self.fails(error, function, *arguments)
        kept = getattr(caught, name)
        self.assertIs(type(kept), type(value))
        self.assertEqual(repr(kept), repr(value))

    def is_integer_tuple(self, value, many):
        """Check that the value is a tuple of so many integers."""
        self.assertIs(type(value), tuple)
        self.assertEqual([type(entry) for entry in value], [int] * many)

    def is_moving(self, box, engaged, value):
        """Check that the value is a motion of the engaged set."""
        self.is_integer_tuple(value, box[0])
        self.assertTrue(obeys(box, engaged, value), (box, engaged, value))

    def are_weights_of(self, box, engaged, value):
        """Check that the value is weights for the engaged set."""
        self.is_integer_tuple(value, part_count(box))
        gears = len(box[1])
        for device in range(len(box[2])):
            if device not in engaged:
                self.assertEqual(value[gears + device], 0)

    def checks_box_and_engaged(self, function, *others):
        """Check that InvalidBox comes first and InvalidEngaged second, whatever the other arguments are."""
        for wrong in WRONG_BOXES:
            self.fails(InvalidBox, function, wrong, (0,), *others)
            self.fails(InvalidBox, function, wrong, None, *others)
        for box in (PLANET, CHAIN, SAMPLES["bare"], SAMPLES["held by its gears"]):
            for wrong in wrong_engaged(box):
                self.fails(InvalidEngaged, function, box, wrong, *others)

    def checks_order(self, function, right, *steps):
        """Check that the errors come in this order.

        Each step names an error, the place of an argument, and values there that raise it. The arguments in front
        of it are right, those behind it may be wrong as the later steps tell.
        """
        for at, (error, place, wrongs) in enumerate(steps):
            behind = {}
            for _, other, values in steps[at + 1 :]:
                if other != place:
                    behind.setdefault(other, [right[other]]).extend(a_few(values))
            for wrong in wrongs:
                for values in product(*behind.values()):
                    arguments = dict(enumerate(right)) | dict(zip(behind, values)) | {place: wrong}
                    self.fails(error, function, *[arguments[k] for k in range(len(right))])

    def gives_the_same_again(self, function, calls):
        """Check that equal arguments give the same result, whatever is called in between."""
        first = [function(*arguments) for arguments in calls]
        kept = repr(first)
        again = [function(*map(copied, arguments)) for arguments in reversed(calls)]
        self.assertEqual(repr(again[::-1]), kept)
        self.assertEqual(repr(first), kept)

    def gives_new_lists(self, function, *arguments):
        """Check that each returned list is a new one, which no later call changes."""
        first = function(*arguments)
        self.assertIs(type(first), list)
        kept = list(first)
        second = function(*arguments)
        self.assertIsNot(first, second)
        second.append("spoilt")
        second.reverse()
        self.assertEqual(first, kept)
        first.clear()
        self.assertEqual(function(*arguments), kept)
