"""Swaps in full sets, and shifts made of swaps."""

from planetbox.boxes import released_devices, require_engaged
from planetbox.full import is_known_full, require_full, with_device, without_device


def swapped(engaged, off, on):
    """Return the engaged set in which one device is released and another one engaged."""
    return with_device(without_device(engaged, off), on)


def sets_towards(box, engaged, goal):
    """Return the list of full sets, at least one, that are made from a full set by a swap towards another one.

    Whichever device the goal lacks is released, some device of the goal can take its place: full sets
    are the bases of the equations of the devices, counted up to those of the gears and the speed of the input.
    """
    off = min([device for device in engaged if device not in goal])
    choices = [swapped(engaged, off, on) for on in goal if on not in engaged]
    return [choice for choice in choices if is_known_full(box, choice)]


def known_swaps(box, engaged):
    """Return the ascending list of all full sets that are made by one swap from what is known to be a full set."""
    released = released_devices(box, engaged)
    choices = [swapped(engaged, off, on) for off in engaged for on in released]
    return sorted([choice for choice in choices if is_known_full(box, choice)])


def swaps(box, engaged):
    """Return the ascending list of all full sets that are made from a full set by one swap."""
    require_engaged(box, engaged)
    require_full(box, engaged)
    return known_swaps(box, engaged)


def shift(box, first, second):
    """Return a shift with the fewest swaps from a full set to a full set."""
    require_engaged(box, first)
    require_engaged(box, second)
    require_full(box, first)
    require_full(box, second)
    steps = [first]
    while steps[-1] != second:
        steps.append(min(sets_towards(box, steps[-1], second)))
    return steps
