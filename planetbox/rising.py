"""How the least work rises and falls with the burden of one shaft."""

from planetbox.courses import load
from planetbox.rigs import GREATEST_BURDEN
from planetbox.settled import require_loaded_shaft
from planetbox.speeds import fraction, is_at_least, is_fraction, lesser_first
from planetbox.states import carried_motions, least_courses, let_motions
from planetbox.wrongs import InvalidFraction


def is_burden_fraction(value):
    """Tell whether the value, any value, is a fraction that a burden may be."""
    return is_fraction(value) and abs(value[0]) <= GREATEST_BURDEN * value[1]


def burdens_with(burdens, shaft, t):
    """Return the burdens with a fraction in the place of one, all multiplied by the second number of the fraction."""
    over, under = t
    return tuple([over if other == shaft else under * burden for other, burden in enumerate(burdens, 1)])


def stretch(fixed, shaft, drifts):
    """Return the first and the last fraction with which no drift has a negative load, or None if there are none.

    The load of a drift rises or falls straight with the burden of the shaft, which is 0 in the fixed burdens.
    """
    lowest = [(-GREATEST_BURDEN, 1)]
    highest = [(GREATEST_BURDEN, 1)]
    for drift in drifts:
        at_zero = load(fixed, drift)
        if drift[shaft] > 0:
            lowest.append(fraction(-at_zero, drift[shaft]))
        elif drift[shaft] < 0:
            highest.append(fraction(at_zero, -drift[shaft]))
        elif at_zero < 0:
            return None
    first = lesser_first(lowest)[-1]
    last = lesser_first(highest)[0]
    if not is_at_least(last, first):
        return None
    return first, last


def course_behind(fixed, shaft, courses, t):
    """Return one of the courses that has the least work at a fraction and, where there is more, right behind it.

    Of courses with equal work at the fraction, the one with the slowest shaft has the least work behind it.
    """
    by_speed = tuple([1 if other == shaft else 0 for other in range(1, len(fixed) + 1)])
    return least_courses(by_speed, least_courses(burdens_with(fixed, shaft, t), courses))[0]


def bends(fixed, shaft, course, courses):
    """Return the list of the fractions behind which a course with a slower shaft has less work than this one."""
    found = []
    for other in courses:
        slower = course[shaft] * other[0] - other[shaft] * course[0]
        if slower > 0:
            dearer = load(fixed, other) * course[0] - load(fixed, course) * other[0]
            found.append(fraction(dearer, slower))
    return found


def pieces_between(fixed, shaft, courses, first, last):
    """Return the list of the pieces from the first to the last fraction of the stretch."""
    found = []
    begin = first
    while not found or begin != last:
        course = course_behind(fixed, shaft, courses, begin)
        end = lesser_first([last] + bends(fixed, shaft, course, courses))[0]
        found.append((begin, end, course))
        begin = end
    return found


def pieces(rig, engaged, burdens, shaft):
    """Return the list of the pieces of the stretch, an empty one if there is no stretch."""
    require_loaded_shaft(rig, engaged, burdens, shaft)
    fixed = burdens_with(burdens, shaft, (0, 1))
    courses, drifts = let_motions(rig, engaged)
    ends = stretch(fixed, shaft, drifts)
    if not courses or ends is None:
        return []
    first, last = ends
    return pieces_between(fixed, shaft, courses, first, last)


def work_at(rig, engaged, burdens, shaft, t):
    """Return the least work with a fraction in the place of the burden of the shaft."""
    require_loaded_shaft(rig, engaged, burdens, shaft)
    if not is_burden_fraction(t):
        raise InvalidFraction("not a fraction from -100 to 100")
    over, under = carried_motions(rig, engaged, burdens_with(burdens, shaft, t))[0]
    return fraction(over, under * t[1])
