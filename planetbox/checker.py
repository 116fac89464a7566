"""The checker of certificates.

Each function of a certificate returns the number of its first condition that does not hold, or None.
"""

from planetbox.boxes import is_engaged, require_box
from planetbox.errors import NotACertificate
from planetbox.full import is_known_full
from planetbox.motions import is_known_motion
from planetbox.prices import are_prices, cheaper_swaps
from planetbox.weights import are_held_weights, are_shaft_weights


def has_form(value, entries):
    """Tell whether the value, any value, is a tuple that begins with a word and has as many entries as it asks for."""
    if not isinstance(value, tuple) or len(value) == 0 or not isinstance(value[0], str):
        return False
    return value[0] in entries and len(value) == entries[value[0]]


def verdict(fault):
    """Return ("right",), or ("wrong", k) if the condition with the number k is the first one that does not hold."""
    if fault is None:
        return ("right",)
    return ("wrong", fault)


def held_fault(box, engaged, weights):
    """Look at a certificate that a set is held."""
    if not is_engaged(box, engaged):
        return 0
    if not are_held_weights(box, engaged, weights):
        return 1
    return None


def loose_fault(box, engaged, first, second):
    """Look at a certificate that a set is loose."""
    if not is_engaged(box, engaged):
        return 0
    if not is_known_motion(box, engaged, first) or not is_known_motion(box, engaged, second):
        return 1
    if first[0] == 0:
        return 2
    if second[0] != 0 or not any(second):
        return 3
    return None


def are_all_shaft_weights(box, engaged, rows):
    """Tell whether the value, any value, is a tuple with shaft weights for each shaft other than the input."""
    if not isinstance(rows, tuple) or len(rows) != box[0] - 1:
        return False
    return all([are_shaft_weights(box, engaged, rows[shaft - 1], shaft) for shaft in range(1, box[0])])


def driven_fault(box, engaged, speeds, rows):
    """Look at a certificate that a set is driven."""
    if not is_engaged(box, engaged):
        return 0
    if not is_known_motion(box, engaged, speeds) or speeds[0] == 0:
        return 1
    if not are_all_shaft_weights(box, engaged, rows):
        return 2
    return None


def is_full_set(box, value):
    """Tell whether the value, any value, is a full set of the box."""
    return is_engaged(box, value) and is_known_full(box, value)


def lacking(engaged, other):
    """Return the list of the devices of an engaged set that the other one lacks."""
    return [device for device in engaged if device not in other]


def is_swap(before, after):
    """Tell whether a swap makes the second engaged set from the first one."""
    return len(lacking(before, after)) == 1 and len(lacking(after, before)) == 1


def is_chain_of_swaps(box, value):
    """Tell whether the value, any value, is a list of full sets, at least one, each made from the last by a swap."""
    if not isinstance(value, list) or len(value) == 0:
        return False
    if not all([is_full_set(box, engaged) for engaged in value]):
        return False
    return all([is_swap(value[k - 1], value[k]) for k in range(1, len(value))])


def shift_fault(box, sets):
    """Look at a certificate that a shift has as few swaps as can be."""
    if not is_chain_of_swaps(box, sets):
        return 0
    if len(sets) - 1 != len(lacking(sets[0], sets[-1])):
        return 1
    return None


def cheapest_fault(box, engaged, prices):
    """Look at a certificate that a full set is a cheapest one."""
    if not is_full_set(box, engaged) or not are_prices(box, prices):
        return 0
    if cheaper_swaps(box, engaged, prices):
        return 1
    return None


# The number of entries of each kind of certificate, and the function that looks at all but the first one.
ENTRIES = {"held": 4, "loose": 5, "driven": 5, "shift": 3, "cheapest": 4}
FAULTS = {
    "held": held_fault,
    "loose": loose_fault,
    "driven": driven_fault,
    "shift": shift_fault,
    "cheapest": cheapest_fault,
}


def check(certificate):
    """Return ("right",), or ("wrong", k) with the number of the first condition that does not hold."""
    if not has_form(certificate, dict(ENTRIES)):
        raise NotACertificate("not a certificate")
    require_box(certificate[1])
    first_fault = FAULTS[certificate[0]]
    entries = certificate[1:]
    return verdict(first_fault(*entries))
