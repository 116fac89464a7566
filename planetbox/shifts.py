"""Swaps in full sets, and shifts made of swaps."""

from planetbox.boxes import released_devices, require_engaged
from planetbox.full import is_known_full, require_full, without_device


def swapped(engaged, off, on):
    """Return the engaged set in which one device is released and another one engaged."""
    return tuple(sorted(without_device(engaged, off) + (on,)))


def swap_towards(box, engaged, goal):
    """Return the full set made from one full set by a swap that brings it nearer to another one.

    Whichever device the goal lacks is released, some device of the goal can take its place: full sets
    are the bases of the equations of the devices, counted up to those of the gears and the speed of the input.
    """
    off = min([device for device in engaged if device not in goal])
    choices = [swapped(engaged, off, on) for on in goal if on not in engaged]
    return min([choice for choice in choices if is_known_full(box, choice)])


def swaps(box, engaged):
    """Return the ascending list of all full sets that are made from a full set by one swap."""
    require_engaged(box, engaged)
    require_full(box, engaged)
    released = released_devices(box, engaged)
    choices = [swapped(engaged, off, on) for off in engaged for on in released]
    return sorted([choice for choice in choices if is_known_full(box, choice)])


def shift(box, first, second):
    """Return a shift with the fewest swaps from a full set to a full set."""
    require_engaged(box, first)
    require_engaged(box, second)
    require_full(box, first)
    require_full(box, second)
    steps = [first]
    while steps[-1] != second:
        steps.append(swap_towards(box, steps[-1], second))
    return steps
