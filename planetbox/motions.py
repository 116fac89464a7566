"""Motions of an engaged set, and its freedom."""

from planetbox.boxes import active_parts, are_integers, part_row, require_engaged
from planetbox.rows import lead_rows, times


def active_rows(box, engaged):
    """Return the list of the equations of all active parts."""
    return [part_row(box, part) for part in active_parts(box, engaged)]


def input_last(box):
    """Return the list of all shafts in which the input stands last.

    Eliminated in this order, the input gets a lead row exactly if it has speed 0 in every motion.
    """
    return list(range(1, box[0])) + [0]


def active_leads(box, engaged):
    """Return the lead rows of the equations of all active parts, the input looked at last."""
    return lead_rows(active_rows(box, engaged), input_last(box))


def known_freedom(box, engaged):
    """Return the freedom of what is known to be an engaged set."""
    return box[0] - len(active_leads(box, engaged))


def is_known_motion(box, engaged, value):
    """Tell whether the value, any value, is a motion of what is known to be an engaged set."""
    if not are_integers(value, box[0]):
        return False
    return all([times(row, value) == 0 for row in active_rows(box, engaged)])


def is_motion(box, engaged, value):
    """Tell whether the value, any value, is a motion of the engaged set."""
    require_engaged(box, engaged)
    return is_known_motion(box, engaged, value)


def freedom(box, engaged):
    """Return the freedom of the engaged set."""
    require_engaged(box, engaged)
    return known_freedom(box, engaged)
