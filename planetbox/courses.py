"""Courses and drifts of an engaged set of a rig."""

from planetbox.motions import is_known_motion
from planetbox.rigs import require_loaded, require_rig_and_engaged, wheel_rows
from planetbox.rows import times
from planetbox.speeds import fraction
from planetbox.wrongs import InvalidCourse


def values_in(rig, speeds):
    """Return the tuple of the values of all freewheels in what is known to be a motion."""
    return tuple([times(row, speeds) for row in wheel_rows(rig)])


def is_let(rig, engaged, value):
    """Tell whether the value, any value, is a motion that all freewheels let be."""
    if not is_known_motion(rig[0], engaged, value):
        return False
    return all([entry >= 0 for entry in values_in(rig, value)])


def is_known_course(rig, engaged, value):
    """Tell whether the value, any value, is a course of what is known to be an engaged set."""
    return is_let(rig, engaged, value) and value[0] > 0


def is_known_drift(rig, engaged, value):
    """Tell whether the value, any value, is a drift of what is known to be an engaged set."""
    return is_let(rig, engaged, value) and value[0] == 0


def require_course(rig, engaged, course):
    """Raise InvalidCourse if the argument is not a course of what is known to be an engaged set."""
    if not is_known_course(rig, engaged, course):
        raise InvalidCourse("not a course of the engaged set")


def load(burdens, speeds):
    """Return the load of a motion."""
    return times(burdens, speeds[1:])


def known_work(burdens, course):
    """Return the work of what is known to be a course, a fraction."""
    return fraction(load(burdens, course), course[0])


def is_course(rig, engaged, value):
    """Tell whether the value, any value, is a course of the engaged set."""
    require_rig_and_engaged(rig, engaged)
    return is_known_course(rig, engaged, value)


def is_drift(rig, engaged, value):
    """Tell whether the value, any value, is a drift of the engaged set."""
    require_rig_and_engaged(rig, engaged)
    return is_known_drift(rig, engaged, value)


def work(rig, engaged, burdens, course):
    """Return the work of a course, a fraction."""
    require_loaded(rig, engaged, burdens)
    require_course(rig, engaged, course)
    return known_work(burdens, course)


def wheel_values(rig, engaged, course):
    """Return the tuple of the values of all freewheels in a course."""
    require_rig_and_engaged(rig, engaged)
    require_course(rig, engaged, course)
    return values_in(rig, course)
