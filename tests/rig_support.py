"""What the tests of rigs share: sample rigs, wrong ones, and freewheels and courses as the document words them."""

from functools import lru_cache
from itertools import product

from tests.support import CHAIN, PLANET, SAMPLES, WRONG_BOXES, basis_of, dot, engaged_sets, numbers, obeys

RIG = (PLANET, (("back", 1), ("over", 0, 1)))
LEVER = (
    4,
    (("planet", 0, 30, 1, 70, 2),),
    (("brake", 1), ("clutch", 0, 2), ("clutch", 2, 3), ("brake", 3), ("clutch", 1, 3)),
)


def made_wheels(box, seed, many):
    """Make up freewheels of the box."""
    stream = numbers(seed)
    shafts = box[0]
    found = []
    for _ in range(many):
        first, by = next(stream) % shafts, 1 + next(stream) % (shafts - 1)
        found.append(("over", first, (first + by) % shafts) if next(stream) % 3 else ("back", first))
    return tuple(found)


RIGS = [
    RIG,
    (PLANET, ()),
    (PLANET, (("back", 1),)),
    (PLANET, (("over", 0, 1), ("over", 1, 0), ("back", 2))),
    (PLANET, (("back", 2), ("back", 2), ("over", 2, 1), ("over", 2, 1), ("back", 0), ("over", 1, 2))),
    (LEVER, ()),
    (LEVER, (("over", 2, 3), ("back", 1), ("over", 0, 3))),
    (CHAIN, (("over", 3, 4), ("back", 7), ("over", 7, 0))),
    ((2, (), ()), ()),
    ((2, (), ()), (("over", 0, 1), ("back", 1))),
    ((2, (), ()), (("over", 1, 0), ("back", 0))),
    ((2, (("mesh", 0, 20, 1, 40),), (("brake", 0),)), (("back", 1),)),
    ((2, (("mesh", 0, 20, 1, 40),), (("brake", 0),)), (("over", 0, 1),)),
]
RIGS += [(box, made_wheels(box, at, at % 7)) for at, box in enumerate(list(SAMPLES.values())[::3])]

WRONG_RIGS = (
    *WRONG_BOXES,
    PLANET,
    (PLANET,),
    (PLANET, (), ()),
    [PLANET, ()],
    (PLANET, []),
    (PLANET, None),
    (list(PLANET), ()),
    ((), PLANET),
    (None, ()),
    (PLANET, (("over", 1, 1),)),
    (PLANET, (("over", 0, 3),)),
    (PLANET, (("back", 3),)),
    (PLANET, (("back", True),)),
    (PLANET, (["back", 1],)),
    (PLANET, ("back", 1)),
    (PLANET, (("back", 1),) * 7),
    *[(box, ()) for box in WRONG_BOXES],
)


def row_of_wheel(rig, number):
    """The coefficients of a freewheel, as point 19 words them."""
    wheel = rig[1][number]
    return tuple(
        int(shaft == wheel[1]) - int(wheel[0] == "over" and shaft == wheel[2]) for shaft in range(rig[0][0])
    )


def values_of(rig, speeds):
    """The values of all freewheels in a motion."""
    return tuple(dot(row_of_wheel(rig, number), speeds) for number in range(len(rig[1])))


def is_motion_of(rig, engaged, value):
    if type(value) is not tuple or len(value) != rig[0][0] or any(type(entry) is not int for entry in value):
        return False
    return obeys(rig[0], engaged, value)


def is_course_of(rig, engaged, value):
    """Whether the value is a course, as point 20 words it."""
    return is_motion_of(rig, engaged, value) and value[0] > 0 and all(entry >= 0 for entry in values_of(rig, value))


def is_drift_of(rig, engaged, value):
    return is_motion_of(rig, engaged, value) and value[0] == 0 and all(entry >= 0 for entry in values_of(rig, value))


@lru_cache(maxsize=None)
def some_motions(box, engaged):
    """Some motions of an engaged set: small sums of multiples of motions of which all others are sums."""
    basis = basis_of(box, engaged)
    if len(basis) <= 4:
        choices = list(product(range(-2, 3), repeat=len(basis)))
        choices = choices[:: 1 + len(choices) // 60] + [(1,) * len(basis), (0,) * len(basis)]
    else:
        stream = numbers(len(basis))
        choices = [tuple(next(stream) % 4 - 1 for _ in basis) for _ in range(40)]
        choices += [(1,) * len(basis), (0,) * len(basis)]
    sums = [[dot(choice, [speeds[shaft] for speeds in basis]) for shaft in range(box[0])] for choice in choices]
    return tuple(sorted({tuple(speeds) for speeds in sums}))


def rig_cases():
    """All pairs of a sample rig and an engaged set of it."""
    return [(rig, engaged) for rig in RIGS for engaged in engaged_sets(rig[0])]


@lru_cache(maxsize=None)
def course_cases():
    """Sample rigs with an engaged set and a course of it."""
    found = []
    for rig, engaged in rig_cases():
        courses = [speeds for speeds in some_motions(rig[0], engaged) if is_course_of(rig, engaged, speeds)]
        found += [(rig, engaged, course) for course in courses[:3]]
    return found


def some_burdens(rig):
    """Some burdens of the rig."""
    many = rig[0][0] - 1
    stream = numbers(many + 40)
    found = [(0,) * many, (1,) * many, (-100,) * many, (100,) * many]
    found += [(0,) * (many - 1) + (1,), (1,) + (0,) * (many - 1)]
    return found + [tuple(next(stream) % 201 - 100 for _ in range(many)) for _ in range(3)]
