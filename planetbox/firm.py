"""Firm freewheels, which hold in some carrying torques, and slack ones, which run ahead in some least course."""

from planetbox.courses import values_in
from planetbox.rigs import require_loaded, require_wheel
from planetbox.rows import without_divisor
from planetbox.states import carried_motions, carrying_rows, torques_of_row


def summed(rows):
    """Return the sum of rows, of which there is at least one, without a common divisor."""
    return without_divisor([sum([row[at] for row in rows]) for at in range(len(rows[0]))])


def course_of_all(courses, idle):
    """Return the least course in which the value of each slack freewheel is positive.

    It is the sum of all that least courses are sums of: no freewheel has a negative value in one of them.
    """
    return tuple(summed(courses + idle))


def torques_of_all(rig, engaged, burdens, least):
    """Return the carrying torques in which the hold of each firm freewheel is positive, likewise."""
    return torques_of_row(rig, engaged, summed(carrying_rows(rig, engaged, burdens, least)))


def known_pair(rig, engaged, burdens):
    """Return a parted pair, or raise NotCarried."""
    least, courses, idle = carried_motions(rig, engaged, burdens)
    return course_of_all(courses, idle), torques_of_all(rig, engaged, burdens, least)


def firm_among(rig, courses, idle):
    """Return the ascending tuple of the firm freewheels: those that are not slack."""
    values = values_in(rig, course_of_all(courses, idle))
    return tuple([wheel for wheel, entry in enumerate(values) if entry == 0])


def known_firm_wheels(rig, engaged, burdens):
    """Return the ascending tuple of the firm freewheels, or raise NotCarried."""
    _, courses, idle = carried_motions(rig, engaged, burdens)
    return firm_among(rig, courses, idle)


def firm_wheels(rig, engaged, burdens):
    """Return the ascending tuple of the numbers of the firm freewheels."""
    require_loaded(rig, engaged, burdens)
    return known_firm_wheels(rig, engaged, burdens)


def firm_torques(rig, engaged, burdens, wheel):
    """Return carrying torques with a positive hold for the freewheel, or None if it is slack."""
    require_loaded(rig, engaged, burdens)
    require_wheel(rig, wheel)
    _, torques = known_pair(rig, engaged, burdens)
    if torques[2][wheel] == 0:
        return None
    return torques


def slack_course(rig, engaged, burdens, wheel):
    """Return a least course in which the value of the freewheel is positive, or None if it is firm."""
    require_loaded(rig, engaged, burdens)
    require_wheel(rig, wheel)
    _, courses, idle = carried_motions(rig, engaged, burdens)
    course = course_of_all(courses, idle)
    if values_in(rig, course)[wheel] == 0:
        return None
    return course


def parted_pair(rig, engaged, burdens):
    """Return a least course and carrying torques that part the slack freewheels from the firm ones."""
    require_loaded(rig, engaged, burdens)
    return known_pair(rig, engaged, burdens)
