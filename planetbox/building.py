"""Boxes made of other boxes: reversed, and joined."""

from planetbox.boxes import MOST_DEVICES, MOST_GEARS, MOST_SHAFTS, require_box
from planetbox.errors import TooLarge


def moved_gear(gear, places):
    """Return the gear with each shaft numbered by its place. In every gear the shafts stand at odd places."""
    return tuple([places[entry] if at % 2 == 1 else entry for at, entry in enumerate(gear)])


def moved_device(device, places):
    """Return the device with each shaft numbered by its place, the shafts of a clutch in ascending order."""
    return device[:1] + tuple(sorted([places[shaft] for shaft in device[1:]]))


def moved_parts(box, places):
    """Return the gears and the devices of the box, with each shaft numbered by its place."""
    _, gears, devices = box
    moved_gears = tuple([moved_gear(gear, places) for gear in gears])
    return moved_gears, tuple([moved_device(device, places) for device in devices])


def reversed_box(box):
    """Return the box with its shafts numbered from the other end."""
    require_box(box)
    gears, devices = moved_parts(box, list(reversed(range(box[0]))))
    return box[0], gears, devices


def joined(first, second):
    """Return the box in which the output of the first box is the input of the second one."""
    require_box(first)
    require_box(second)
    # The boxes share one shaft.
    shafts = first[0] + second[0] - 1
    gears, devices = moved_parts(second, list(range(first[0] - 1, shafts)))
    gears = first[1] + gears
    devices = first[2] + devices
    if shafts > MOST_SHAFTS or len(gears) > MOST_GEARS or len(devices) > MOST_DEVICES:
        raise TooLarge("the joined box would be too large")
    return shafts, gears, devices
