"""Boxes, their engaged sets, and the equations of their parts."""

from itertools import combinations

from planetbox.errors import InvalidBox, InvalidEngaged, InvalidPart, InvalidShaft

FEWEST_SHAFTS = 2
MOST_SHAFTS = 8
MOST_GEARS = 6
MOST_DEVICES = 8
FEWEST_TEETH = 6
MOST_TEETH = 200


def is_integer(value):
    """Tell whether the value is an integer: True and False are not."""
    return isinstance(value, int) and not isinstance(value, bool)


def is_within(value, least, most):
    """Tell whether the value is an integer that is neither too small nor too great."""
    return is_integer(value) and least <= value <= most


def are_integers(value, many):
    """Tell whether the value is a tuple of so many integers."""
    if not isinstance(value, tuple) or len(value) != many:
        return False
    return all([is_integer(entry) for entry in value])


def are_within(value, many, least, most):
    """Tell whether the value is a tuple of so many integers, each neither too small nor too great."""
    return are_integers(value, many) and all([least <= entry <= most for entry in value])


def is_number_of(value, many):
    """Tell whether the value is the number of one of so many things numbered from 0."""
    return is_integer(value) and 0 <= value < many


def are_unlike_shafts(values, shafts):
    """Tell whether the values are different shafts."""
    if not all([is_number_of(value, shafts) for value in values]):
        return False
    return len(set(values)) == len(values)


def are_teeth(values):
    """Tell whether the values are numbers of teeth."""
    return all([is_within(value, FEWEST_TEETH, MOST_TEETH) for value in values])


def is_wheel_pair(gear, shafts):
    """Tell whether a tuple that begins like a gear of two wheels is one."""
    if len(gear) != 5:
        return False
    _, first, first_teeth, second, second_teeth = gear
    return are_unlike_shafts((first, second), shafts) and are_teeth((first_teeth, second_teeth))


def is_planet_set(gear, shafts):
    """Tell whether a tuple that begins like a planet set is one."""
    if len(gear) != 6:
        return False
    _, sun, sun_teeth, ring, ring_teeth, carrier = gear
    return are_unlike_shafts((sun, ring, carrier), shafts) and are_teeth((sun_teeth, ring_teeth))


def is_gear(value, shafts):
    """Tell whether the value is a gear between so many shafts."""
    if not isinstance(value, tuple) or len(value) == 0:
        return False
    if value[0] == "planet":
        return is_planet_set(value, shafts)
    return value[0] in ("mesh", "inner") and is_wheel_pair(value, shafts)


def is_device(value, shafts):
    """Tell whether the value is a device of so many shafts."""
    if not isinstance(value, tuple) or len(value) == 0:
        return False
    if value[0] == "clutch":
        return len(value) == 3 and are_unlike_shafts(value[1:], shafts) and value[1] < value[2]
    return value[0] == "brake" and len(value) == 2 and is_number_of(value[1], shafts)


def is_box(value):
    """Tell whether the value, any value, is a box."""
    if not isinstance(value, tuple) or len(value) != 3:
        return False
    shafts, gears, devices = value
    if not is_within(shafts, FEWEST_SHAFTS, MOST_SHAFTS):
        return False
    if not isinstance(gears, tuple) or len(gears) > MOST_GEARS:
        return False
    if not isinstance(devices, tuple) or len(devices) > MOST_DEVICES:
        return False
    return all([is_gear(gear, shafts) for gear in gears]) and all([is_device(device, shafts) for device in devices])


def require_box(box):
    """Raise InvalidBox if the argument is not a box."""
    if not is_box(box):
        raise InvalidBox("not a box")


def is_engaged(box, value):
    """Tell whether the value, any value, is an engaged set of the box."""
    require_box(box)
    many = len(box[2])
    if not isinstance(value, tuple) or not all([is_number_of(device, many) for device in value]):
        return False
    return all([value[k - 1] < value[k] for k in range(1, len(value))])


def require_engaged(box, engaged):
    """Raise InvalidBox or InvalidEngaged if the arguments are not a box and an engaged set of it."""
    if not is_engaged(box, engaged):
        raise InvalidEngaged("not an engaged set of the box")


def require_other_shaft(box, shaft):
    """Raise InvalidShaft if the argument is not a shaft of the box other than the input."""
    if not is_number_of(shaft, box[0]) or shaft == 0:
        raise InvalidShaft(shaft)


def released_devices(box, engaged):
    """Return the ascending list of the devices that are not engaged."""
    return [device for device in range(len(box[2])) if device not in engaged]


def all_engaged_sets(box):
    """Return the list of all engaged sets of the box, the smaller ones first."""
    devices = list(range(len(box[2])))
    return [choice for size in range(len(devices) + 1) for choice in combinations(devices, size)]


def count_parts(box):
    """Return how many parts the box has."""
    return len(box[1]) + len(box[2])


def active_parts(box, engaged):
    """Return the ascending list of the numbers of the active parts."""
    gears = len(box[1])
    return list(range(gears)) + [gears + device for device in engaged]


def part_terms(part):
    """Return the pairs of a shaft and its coefficient in the equation of a gear or a device."""
    if part[0] == "planet":
        _, sun, sun_teeth, ring, ring_teeth, carrier = part
        return ((sun, sun_teeth), (ring, ring_teeth), (carrier, -sun_teeth - ring_teeth))
    if part[0] == "mesh":
        return ((part[1], part[2]), (part[3], part[4]))
    if part[0] == "inner":
        return ((part[1], part[2]), (part[3], -part[4]))
    if part[0] == "clutch":
        return ((part[1], 1), (part[2], -1))
    return ((part[1], 1),)


def part_row(box, number):
    """Return the coefficients of all shafts in the equation of a part of a box."""
    parts = box[1] + box[2]
    row = [0] * box[0]
    for shaft, coefficient in part_terms(parts[number]):
        row[shaft] = coefficient
    return tuple(row)


def equation(box, part):
    """Return the coefficients of all shafts in the equation of the part with this number."""
    require_box(box)
    if not is_number_of(part, count_parts(box)):
        raise InvalidPart(part)
    return part_row(box, part)
