"""Needless devices and full sets."""

from itertools import combinations

from planetbox.boxes import require_box, require_engaged
from planetbox.errors import NotFull
from planetbox.kinds import known_kind
from planetbox.motions import known_freedom


def without_device(engaged, device):
    """Return the engaged set without one of its devices."""
    return tuple([other for other in engaged if other != device])


def with_device(engaged, device):
    """Return the engaged set with one more device."""
    return tuple(sorted(engaged + (device,)))


def needless_devices(box, engaged):
    """Return the list of the needless devices of what is known to be an engaged set."""
    free = known_freedom(box, engaged)
    return [device for device in engaged if known_freedom(box, without_device(engaged, device)) == free]


def has_needless(box, engaged):
    """Tell whether what is known to be an engaged set has a needless device.

    Without one, each device takes one from the freedom that the gears leave; a needless one takes none.
    """
    return known_freedom(box, ()) - known_freedom(box, engaged) < len(engaged)


def is_known_full(box, engaged):
    """Tell whether what is known to be an engaged set is a full set."""
    return known_kind(box, engaged) == "driven" and not has_needless(box, engaged)


def require_full(box, engaged):
    """Raise NotFull if what is known to be an engaged set is not a full set."""
    if not is_known_full(box, engaged):
        raise NotFull("the engaged set is not a full set")


def driven_choices(box, size):
    """Return the ascending list of the driven sets of so many devices."""
    devices = list(range(len(box[2])))
    return [choice for choice in combinations(devices, size) if known_kind(box, choice) == "driven"]


def known_full_sets(box):
    """Return the ascending list of all full sets of what is known to be a box.

    A driven set has freedom 1; so it is full exactly if it has as many devices as the freedom of the
    gears alone is greater than 1.
    """
    size = known_freedom(box, ()) - 1
    if size < 0:
        return []
    return driven_choices(box, size)


def role(device, choices):
    """Return the role of a device in the list of all full sets."""
    many = len([choice for choice in choices if device in choice])
    if many == 0:
        return "never"
    if many == len(choices):
        return "always"
    return "sometimes"


def needless(box, engaged):
    """Return the ascending tuple of the needless devices of the engaged set."""
    require_engaged(box, engaged)
    return tuple(needless_devices(box, engaged))


def is_full(box, engaged):
    """Tell whether the engaged set is a full set."""
    require_engaged(box, engaged)
    return is_known_full(box, engaged)


def full_sets(box):
    """Return the ascending list of all full sets of the box."""
    require_box(box)
    return known_full_sets(box)


def roles(box):
    """Return the list of the roles of all devices in the full sets of the box."""
    require_box(box)
    choices = known_full_sets(box)
    return [role(device, choices) for device in range(len(box[2]))]
