"""Completing engaged sets to full sets, and thinning driven sets to full sets."""

from planetbox.boxes import released_devices, require_engaged
from planetbox.full import has_needless, is_known_full, with_device
from planetbox.kinds import known_kind, require_driven


def can_be_part(box, engaged):
    """Tell whether an engaged set is part of a full set, if the box has one."""
    return known_kind(box, engaged) != "held" and not has_needless(box, engaged)


def filled_up(box, engaged, devices):
    """Return the engaged set with each of the devices, in their order, that leaves it part of a full set.

    All full sets have equally many devices, and what one device bars, no later one can make good; so the
    first device that fits is always right. If the devices ascend, the full set that is reached is the least.
    """
    filled = engaged
    for device in devices:
        wider = with_device(filled, device)
        if can_be_part(box, wider):
            filled = wider
    return filled


def completed(box, engaged, devices):
    """Return the full set that filling up with the devices leads to, or None if it leads to none."""
    filled = filled_up(box, engaged, devices)
    if not is_known_full(box, filled):
        return None
    return filled


def complete(box, engaged):
    """Return the least full set that contains the engaged set, or None."""
    require_engaged(box, engaged)
    # A held set stays held, and a needless device needless, so nothing is engaged in such a set: it is not full.
    return completed(box, engaged, released_devices(box, engaged))


def thin(box, engaged):
    """Return the least full set that is contained in a driven set."""
    require_engaged(box, engaged)
    require_driven(box, engaged)
    return filled_up(box, (), engaged)
