"""Speeds as fractions: those of the shafts in a driven set, and those of a box."""

from math import gcd, lcm

from planetbox.boxes import are_integers, is_number_of, require_box, require_engaged
from planetbox.errors import InvalidShaft
from planetbox.full import known_full_sets
from planetbox.kinds import known_motion, require_driven


def fraction(over, under):
    """Return the fraction of two integers, the second one positive, without a common divisor."""
    divisor = gcd(over, under)
    return over // divisor, under // divisor


def is_fraction(value):
    """Tell whether the value, any value, is a fraction."""
    return are_integers(value, 2) and value[1] > 0 and gcd(value[0], value[1]) == 1


def is_at_least(first, second):
    """Tell whether the first fraction is not less than the second one."""
    return first[0] * second[1] >= second[0] * first[1]


def speeds_of_shafts(box, engaged):
    """Return the tuple of the speeds of all shafts in what is known to be a driven set."""
    turns = known_motion(box, engaged)
    return tuple([fraction(entry, turns[0]) for entry in turns])


def lesser_first(fractions):
    """Return the list of the fractions, the lesser ones first as numbers."""
    common = 1
    for _, under in fractions:
        common = lcm(common, under)
    ranked = sorted([(over * (common // under), over, under) for over, under in fractions])
    return [(over, under) for _, over, under in ranked]


def speed(box, engaged, shaft):
    """Return the speed of a shaft in a driven set."""
    require_engaged(box, engaged)
    require_driven(box, engaged)
    if not is_number_of(shaft, box[0]):
        raise InvalidShaft(shaft)
    return speeds_of_shafts(box, engaged)[shaft]


def speeds(box):
    """Return the speeds of the box, the lesser ones first, each with the full sets that have it."""
    require_box(box)
    found = {}
    for engaged in known_full_sets(box):
        found.setdefault(speeds_of_shafts(box, engaged)[-1], []).append(engaged)
    return [(output, found[output]) for output in lesser_first(list(found))]
