"""Weights of the parts, which show that a set is held or driven."""

from planetbox.boxes import active_parts, are_integers, count_parts, part_row
from planetbox.boxes import released_devices, require_other_shaft, require_engaged
from planetbox.errors import InvalidWeights, NotHeld
from planetbox.kinds import require_driven
from planetbox.motions import input_last
from planetbox.rows import lead_rows, times


def are_weights(box, engaged, value):
    """Tell whether the value, any value, is weights for the engaged set."""
    if not are_integers(value, count_parts(box)):
        return False
    gears = len(box[1])
    return all([value[gears + device] == 0 for device in released_devices(box, engaged)])


def sum_of_weights(box, weights):
    """Return the sum of what is known to be weights."""
    rows = [part_row(box, part) for part in range(count_parts(box))]
    return tuple([times(weights, [row[shaft] for row in rows]) for shaft in range(box[0])])


def are_held_weights(box, engaged, value):
    """Tell whether the value, any value, is held weights for the engaged set."""
    if not are_weights(box, engaged, value):
        return False
    total = sum_of_weights(box, value)
    return total[0] != 0 and not any(total[1:])


def are_shaft_weights(box, engaged, value, shaft):
    """Tell whether the value, any value, is shaft weights for the shaft in the engaged set."""
    if not are_weights(box, engaged, value):
        return False
    total = sum_of_weights(box, value)
    others = [total[other] for other in range(1, box[0]) if other != shaft]
    return total[shaft] > 0 and not any(others)


def row_with_weights(box, part):
    """Return the equation of a part, and behind it the weights that have it as their sum."""
    weights = [0] * count_parts(box)
    weights[part] = 1
    return list(part_row(box, part)) + weights


def leads_with_weights(box, engaged):
    """Return the lead rows of all active parts, each with the weights that have it as their sum behind it."""
    rows = [row_with_weights(box, part) for part in active_parts(box, engaged)]
    return lead_rows(rows, input_last(box))


def weighted_sum(box, engaged, weights):
    """Return the sum of weights for an engaged set."""
    require_engaged(box, engaged)
    if not are_weights(box, engaged, weights):
        raise InvalidWeights("not weights for the engaged set")
    return sum_of_weights(box, weights)


def held_weights(box, engaged):
    """Return held weights for a held set."""
    require_engaged(box, engaged)
    leads = leads_with_weights(box, engaged)
    if 0 not in leads:
        raise NotHeld("the engaged set is not held")
    return tuple(leads[0][box[0]:])


def shaft_weights(box, engaged, shaft):
    """Return shaft weights for a shaft other than the input in a driven set."""
    require_engaged(box, engaged)
    require_driven(box, engaged)
    require_other_shaft(box, shaft)
    # In a driven set every shaft but the input has a lead row, so this one is 0 for all the others.
    return tuple(leads_with_weights(box, engaged)[shaft][box[0]:])
