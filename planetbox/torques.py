"""Torques of an engaged set of a rig: what holds its shafts against burdens, or bars its input."""

from planetbox.boxes import are_integers, is_integer
from planetbox.rigs import require_loaded, require_rig_and_engaged, wheel_rows
from planetbox.rows import times
from planetbox.speeds import fraction
from planetbox.weights import are_weights, sum_of_weights
from planetbox.wrongs import InvalidTorques


def are_holds(rig, value):
    """Tell whether the value, any value, is a tuple of integers from 0 on, one for each freewheel."""
    return are_integers(value, len(rig[1])) and all([hold >= 0 for hold in value])


def are_torques(rig, engaged, value):
    """Tell whether the value, any value, is torques for what is known to be an engaged set."""
    if not isinstance(value, tuple) or len(value) != 3:
        return False
    scale, weights, holds = value
    return is_integer(scale) and scale > 0 and are_weights(rig[0], engaged, weights) and are_holds(rig, holds)


def require_torques(rig, engaged, torques):
    """Raise InvalidTorques if the argument is not torques for what is known to be an engaged set."""
    if not are_torques(rig, engaged, torques):
        raise InvalidTorques("not torques for the engaged set")


def joint_sum(rig, weights, holds):
    """Return the sum of weights and of holds, or of locks, shaft by shaft."""
    rows = wheel_rows(rig)
    by_weights = sum_of_weights(rig[0], weights)
    return tuple([entry + times(holds, [row[shaft] for row in rows]) for shaft, entry in enumerate(by_weights)])


def sum_of_torques(rig, torques):
    """Return the sum of what is known to be torques."""
    _, weights, holds = torques
    return joint_sum(rig, weights, holds)


def are_known_right(rig, engaged, burdens, value):
    """Tell whether the value, any value, is torques that are right for what is known to be burdens."""
    if not are_torques(rig, engaged, value):
        return False
    return sum_of_torques(rig, value)[1:] == tuple([value[0] * burden for burden in burdens])


def are_known_bars(rig, engaged, value):
    """Tell whether the value, any value, is bars for what is known to be an engaged set."""
    if not are_torques(rig, engaged, value):
        return False
    total = sum_of_torques(rig, value)
    return total[0] < 0 and not any(total[1:])


def torque_sum(rig, engaged, torques):
    """Return the sum of torques for the engaged set."""
    require_rig_and_engaged(rig, engaged)
    require_torques(rig, engaged, torques)
    return sum_of_torques(rig, torques)


def are_right(rig, engaged, burdens, value):
    """Tell whether the value, any value, is torques that are right for the burdens."""
    require_loaded(rig, engaged, burdens)
    return are_known_right(rig, engaged, burdens, value)


def pull(rig, engaged, torques):
    """Return the pull of torques, a fraction."""
    require_rig_and_engaged(rig, engaged)
    require_torques(rig, engaged, torques)
    return fraction(-sum_of_torques(rig, torques)[0], torques[0])


def are_bars(rig, engaged, value):
    """Tell whether the value, any value, is bars for the engaged set."""
    require_rig_and_engaged(rig, engaged)
    return are_known_bars(rig, engaged, value)
