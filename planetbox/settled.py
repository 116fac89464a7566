"""Settled shafts, which turn alike in all least courses, and the box in which the firm freewheels are locked."""

from planetbox.boxes import active_parts, count_parts, part_row, require_other_shaft
from planetbox.firm import known_firm_wheels
from planetbox.rigs import known_wheel_row, require_loaded
from planetbox.rows import lead_rows
from planetbox.states import carried_motions
from planetbox.wrongs import NotSettled


def require_loaded_shaft(rig, engaged, burdens, shaft):
    """Raise an error if the arguments are not a rig, an engaged set and burdens of it, and a shaft not the input."""
    require_loaded(rig, engaged, burdens)
    require_other_shaft(rig[0], shaft)


def row_with_mark(row, place, many):
    """Return a row, and behind it so many entries that are 0, but for a 1 in this place."""
    return list(row) + [1 if at == place else 0 for at in range(many)]


def locked_rows(rig, engaged, firm):
    """Return the rows of all active parts and firm freewheels.

    Behind each row are the weights and the locks that have it as their sum.
    """
    box, wheels = rig
    parts = count_parts(box)
    many = parts + len(wheels)
    rows = [row_with_mark(part_row(box, part), part, many) for part in active_parts(box, engaged)]
    return rows + [row_with_mark(known_wheel_row(rig, wheel), parts + wheel, many) for wheel in firm]


def unlike_motions(course, motions, shaft):
    """Return the list of those motions in which the shaft does not turn with the input as it does in the course."""
    return [speeds for speeds in motions if speeds[shaft] * course[0] != course[shaft] * speeds[0]]


def are_all_settled(courses, idle):
    """Tell whether all shafts are settled, by the least courses and the drifts without load."""
    motions = courses + idle
    return not any([unlike_motions(courses[0], motions, shaft) for shaft in range(1, len(courses[0]))])


def settled_motions(rig, engaged, burdens):
    """Return the least work and the only least course, or raise NotCarried or NotSettled."""
    least, courses, idle = carried_motions(rig, engaged, burdens)
    if not are_all_settled(courses, idle):
        raise NotSettled("not all shafts are settled")
    return least, courses[0]


def is_settled(rig, engaged, burdens, shaft):
    """Tell whether the shaft turns alike in all least courses, for one turn of the input."""
    require_loaded_shaft(rig, engaged, burdens, shaft)
    _, courses, idle = carried_motions(rig, engaged, burdens)
    return not unlike_motions(courses[0], courses + idle, shaft)


def settling_weights(rig, engaged, burdens, shaft):
    """Return settling weights for the shaft, or None.

    The shaft is looked at behind all others but the input: its lead row, if it has one, is 0 for all the others.
    """
    require_loaded_shaft(rig, engaged, burdens, shaft)
    rows = locked_rows(rig, engaged, known_firm_wheels(rig, engaged, burdens))
    shafts = rig[0][0]
    leads = lead_rows(rows, [other for other in range(1, shafts) if other != shaft] + [shaft])
    if shaft not in leads:
        return None
    first_lock = shafts + count_parts(rig[0])
    return tuple(leads[shaft][shafts:first_lock]), tuple(leads[shaft][first_lock:])


def two_courses(rig, engaged, burdens, shaft):
    """Return two least courses in which the shaft turns unlike for one turn of the input, or None."""
    require_loaded_shaft(rig, engaged, burdens, shaft)
    _, courses, idle = carried_motions(rig, engaged, burdens)
    unlike = unlike_motions(courses[0], courses + idle, shaft)
    if not unlike:
        return None
    return courses[0], tuple([speed + other for speed, other in zip(courses[0], unlike[0])])


def locking_device(wheel):
    """Return the device that holds the value of the freewheel at 0."""
    if wheel[0] == "back":
        return ("brake", wheel[1])
    return ("clutch",) + tuple(sorted(wheel[1:]))


def locked_box(rig, engaged, burdens):
    """Return the box of the engaged devices, with a device in the place of each firm freewheel."""
    require_loaded(rig, engaged, burdens)
    box, wheels = rig
    firm = known_firm_wheels(rig, engaged, burdens)
    locks = [locking_device(wheels[wheel]) for wheel in firm]
    return box[0], box[1], tuple([box[2][device] for device in engaged] + locks)


def only_course(rig, engaged, burdens):
    """Return the least course without a common divisor greater than 1, or None if not all shafts are settled."""
    require_loaded(rig, engaged, burdens)
    _, courses, idle = carried_motions(rig, engaged, burdens)
    if not are_all_settled(courses, idle):
        return None
    return courses[0]
