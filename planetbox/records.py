"""The judge of records.

Each function of a record returns the number of its first condition that does not hold, or None.
"""

from planetbox.boxes import are_integers, is_engaged, is_number_of
from planetbox.checker import has_form, verdict
from planetbox.courses import is_known_course, is_known_drift, load, values_in
from planetbox.rigs import are_known_burdens, require_rig
from planetbox.torques import are_known_bars, are_known_right, joint_sum
from planetbox.weights import are_weights
from planetbox.wrongs import NotARecord


def barred_fault(rig, engaged, torques):
    """Look at a record that a set is barred."""
    if not is_engaged(rig[0], engaged):
        return 0
    if not are_known_bars(rig, engaged, torques):
        return 1
    return None


def slipping_fault(rig, engaged, burdens, course, drift):
    """Look at a record that a set is slipping."""
    if not is_engaged(rig[0], engaged):
        return 0
    if not are_known_burdens(rig, burdens):
        return 1
    if not is_known_course(rig, engaged, course):
        return 2
    if not is_known_drift(rig, engaged, drift):
        return 3
    if load(burdens, drift) >= 0:
        return 4
    return None


def holds_or_runs(holds, values):
    """Tell whether each freewheel has the hold 0 or the value 0."""
    return all([hold == 0 or entry == 0 for hold, entry in zip(holds, values)])


def joint_fault(rig, engaged, burdens, courses, torques):
    """Look at courses and torques that are to show together that a set is carried."""
    if not is_engaged(rig[0], engaged):
        return 0
    if not are_known_burdens(rig, burdens):
        return 1
    if not all([is_known_course(rig, engaged, course) for course in courses]):
        return 2
    if not are_known_right(rig, engaged, burdens, torques):
        return 3
    if not all([holds_or_runs(torques[2], values_in(rig, course)) for course in courses]):
        return 4
    return None


def carried_fault(rig, engaged, burdens, course, torques):
    """Look at a record that a set is carried."""
    return joint_fault(rig, engaged, burdens, [course], torques)


def wheel_fault(rig, wheel, entries):
    """Look at the conditions that a value is the number of a freewheel, and that its entry is positive."""
    if not is_number_of(wheel, len(rig[1])):
        return 5
    if entries[wheel] <= 0:
        return 6
    return None


def firm_fault(rig, engaged, burdens, course, torques, wheel):
    """Look at a record that a freewheel is firm."""
    fault = carried_fault(rig, engaged, burdens, course, torques)
    if fault is not None:
        return fault
    return wheel_fault(rig, wheel, torques[2])


def slack_fault(rig, engaged, burdens, course, torques, wheel):
    """Look at a record that a freewheel is slack."""
    fault = carried_fault(rig, engaged, burdens, course, torques)
    if fault is not None:
        return fault
    return wheel_fault(rig, wheel, values_in(rig, course))


def is_other_shaft(rig, value):
    """Tell whether the value, any value, is a shaft other than the input."""
    return is_number_of(value, rig[0][0]) and value != 0


def are_weights_and_locks(rig, engaged, value, holds):
    """Tell whether the value, any value, is weights and locks, each lock 0 where the hold is."""
    if not isinstance(value, tuple) or len(value) != 2:
        return False
    weights, locks = value
    if not are_weights(rig[0], engaged, weights) or not are_integers(locks, len(rig[1])):
        return False
    return all([lock == 0 for lock, hold in zip(locks, holds) if hold == 0])


def is_settling(total, shaft):
    """Tell whether a sum is positive for the shaft, and 0 for all shafts but this one and the input."""
    others = [entry for other, entry in enumerate(total) if other not in (0, shaft)]
    return total[shaft] > 0 and not any(others)


def settled_fault(rig, engaged, burdens, course, torques, shaft, settling):
    """Look at a record that a shaft is settled."""
    fault = carried_fault(rig, engaged, burdens, course, torques)
    if fault is not None:
        return fault
    if not is_other_shaft(rig, shaft):
        return 5
    if not are_weights_and_locks(rig, engaged, settling, torques[2]):
        return 6
    weights, locks = settling
    if not is_settling(joint_sum(rig, weights, locks), shaft):
        return 7
    return None


def unlike_fault(rig, engaged, burdens, course, other, torques, shaft):
    """Look at a record that a shaft is not settled."""
    fault = joint_fault(rig, engaged, burdens, [course, other], torques)
    if fault is not None:
        return fault
    if not is_other_shaft(rig, shaft):
        return 5
    if course[shaft] * other[0] == other[shaft] * course[0]:
        return 6
    return None


# The number of entries of each form of record, and the function that looks at all but the first one.
ENTRIES = {"barred": 4, "slipping": 6, "carried": 6, "firm": 7, "slack": 7, "settled": 8, "unlike": 8}
FAULTS = {
    "barred": barred_fault,
    "slipping": slipping_fault,
    "carried": carried_fault,
    "firm": firm_fault,
    "slack": slack_fault,
    "settled": settled_fault,
    "unlike": unlike_fault,
}


def judge(record):
    """Return ("right",), or ("wrong", k) with the number of the first condition that does not hold."""
    if not has_form(record, dict(ENTRIES)):
        raise NotARecord("not a record")
    require_rig(record[1])
    first_fault = FAULTS[record[0]]
    entries = record[1:]
    return verdict(first_fault(*entries))
