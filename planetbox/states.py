"""The state of an engaged set with burdens, barred, slipping or carried, and what shows it.

All courses and drifts are sums of multiples of a few of them, and so are all torques with a given sum: what the
functions of this and the later stages look for is looked for among those few.
"""

from planetbox.boxes import active_parts, count_parts
from planetbox.cones import generators
from planetbox.courses import known_work, load
from planetbox.motions import active_rows
from planetbox.rigs import require_loaded, require_rig_and_engaged, wheel_rows
from planetbox.speeds import lesser_first
from planetbox.wrongs import NotCarried


def let_motions(rig, engaged):
    """Return lists of courses and of drifts of which all courses and drifts are sums of fractions, none negative.

    Behind the speeds of the shafts, the rows that are looked for have the values of the freewheels.
    """
    box, wheels = rig
    places = list(range(len(wheels)))
    rows = [row + (0,) * len(wheels) for row in active_rows(box, engaged)]
    for at, row in enumerate(wheel_rows(rig)):
        rows.append(row + tuple([-1 if place == at else 0 for place in places]))
    values = [box[0] + place for place in places]
    found = [tuple(row[:box[0]]) for row in generators(rows, box[0] + len(wheels), [0] + values)]
    return [speeds for speeds in found if speeds[0] > 0], [speeds for speeds in found if speeds[0] == 0]


def torque_rows(rig, engaged, goal, under):
    """Return rows of which all torques whose sum is the goal, times their scale, by under, are sums of fractions.

    A row has a scale from 0 on, a hold from 0 on for each freewheel, and a weight for each active part.
    """
    rows = wheel_rows(rig) + active_rows(rig[0], engaged)
    by_shafts = [[-entry] + [under * row[shaft] for row in rows] for shaft, entry in enumerate(goal)]
    return generators(by_shafts, 1 + len(rows), list(range(1 + len(rig[1]))))


def torques_of_row(rig, engaged, row):
    """Return the torques that a row has."""
    first_weight = 1 + len(rig[1])
    weights = [0] * count_parts(rig[0])
    for part, weight in zip(active_parts(rig[0], engaged), row[first_weight:]):
        weights[part] = weight
    return row[0], tuple(weights), tuple(row[1:first_weight])


def first_torques(rig, engaged, rows):
    """Return the torques of the first row with a positive scale, or None."""
    for row in rows:
        if row[0] > 0:
            return torques_of_row(rig, engaged, row)
    return None


def known_bars(rig, engaged):
    """Return bars for what is known to be an engaged set, or None."""
    goal = (-1,) + (0,) * (rig[0][0] - 1)
    return first_torques(rig, engaged, torque_rows(rig, engaged, goal, 1))


def is_known_barred(rig, engaged):
    """Tell whether what is known to be an engaged set has no course."""
    courses, _ = let_motions(rig, engaged)
    return not courses


def falling(burdens, drifts):
    """Return the list of the drifts with a negative load."""
    return [drift for drift in drifts if load(burdens, drift) < 0]


def least_courses(burdens, courses):
    """Return the list of those courses, of which there is at least one, that have the least work."""
    works = [known_work(burdens, course) for course in courses]
    least = lesser_first(works)[0]
    return [course for course, own in zip(courses, works) if own == least]


def least_motions(rig, engaged, burdens):
    """Return the least work and lists of least courses and of drifts without load, or None if it is not carried.

    All least courses are sums of fractions of these, none of the fractions negative.
    """
    courses, drifts = let_motions(rig, engaged)
    if not courses or falling(burdens, drifts):
        return None
    least = least_courses(burdens, courses)
    return known_work(burdens, least[0]), least, [drift for drift in drifts if load(burdens, drift) == 0]


def carried_motions(rig, engaged, burdens):
    """Return what least_motions returns, or raise NotCarried."""
    found = least_motions(rig, engaged, burdens)
    if found is None:
        raise NotCarried("the engaged set is not carried with the burdens")
    return found


def carrying_rows(rig, engaged, burdens, least):
    """Return rows of which all torques that are right for the burdens with this pull are sums of fractions."""
    over, under = least
    return torque_rows(rig, engaged, (-over,) + tuple([under * burden for burden in burdens]), under)


def known_state(rig, engaged, burdens):
    """Return the state of what is known to be an engaged set with burdens."""
    courses, drifts = let_motions(rig, engaged)
    if not courses:
        return "barred"
    if falling(burdens, drifts):
        return "slipping"
    return "carried"


def state_of(rig, engaged, burdens):
    """Return "barred", "slipping" or "carried"."""
    require_loaded(rig, engaged, burdens)
    return known_state(rig, engaged, burdens)


def bars_of(rig, engaged):
    """Return bars, or None if there is a course."""
    require_rig_and_engaged(rig, engaged)
    return known_bars(rig, engaged)


def slip_of(rig, engaged, burdens):
    """Return a course and a drift with a negative load, or None if the engaged set is not slipping."""
    require_loaded(rig, engaged, burdens)
    courses, drifts = let_motions(rig, engaged)
    downwards = falling(burdens, drifts)
    if not courses or not downwards:
        return None
    return courses[0], downwards[0]


def carry_of(rig, engaged, burdens):
    """Return a least course and carrying torques, or None if the engaged set is not carried."""
    require_loaded(rig, engaged, burdens)
    found = least_motions(rig, engaged, burdens)
    if found is None:
        return None
    least, courses, _ = found
    return courses[0], first_torques(rig, engaged, carrying_rows(rig, engaged, burdens, least))


def least_work(rig, engaged, burdens):
    """Return the least work, or None if the engaged set is not carried."""
    require_loaded(rig, engaged, burdens)
    found = least_motions(rig, engaged, burdens)
    if found is None:
        return None
    return found[0]
