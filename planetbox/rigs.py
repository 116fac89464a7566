"""Rigs: boxes with freewheels, and the burdens of their shafts."""

from planetbox.boxes import are_unlike_shafts, are_within, is_box, is_number_of, require_engaged
from planetbox.wrongs import InvalidBurdens, InvalidRig, InvalidWheel

MOST_WHEELS = 6
GREATEST_BURDEN = 100


def is_freewheel(value, shafts):
    """Tell whether the value is a freewheel of a box with so many shafts."""
    if not isinstance(value, tuple) or len(value) == 0:
        return False
    if value[0] == "over":
        return len(value) == 3 and are_unlike_shafts(value[1:], shafts)
    return value[0] == "back" and len(value) == 2 and is_number_of(value[1], shafts)


def is_rig(value):
    """Tell whether the value, any value, is a rig."""
    if not isinstance(value, tuple) or len(value) != 2:
        return False
    box, wheels = value
    if not is_box(box) or not isinstance(wheels, tuple) or len(wheels) > MOST_WHEELS:
        return False
    return all([is_freewheel(wheel, box[0]) for wheel in wheels])


def require_rig(rig):
    """Raise InvalidRig if the argument is not a rig."""
    if not is_rig(rig):
        raise InvalidRig("not a rig")


def require_rig_and_engaged(rig, engaged):
    """Raise InvalidRig or InvalidEngaged if the arguments are not a rig and an engaged set of it."""
    require_rig(rig)
    require_engaged(rig[0], engaged)


def known_wheel_row(rig, number):
    """Return the coefficients of all shafts in the value of what is known to be a freewheel."""
    wheel = rig[1][number]
    row = [0] * rig[0][0]
    row[wheel[1]] = 1
    if wheel[0] == "over":
        row[wheel[2]] = -1
    return tuple(row)


def wheel_rows(rig):
    """Return the list of the coefficients of all shafts in the values of all freewheels."""
    return [known_wheel_row(rig, number) for number in range(len(rig[1]))]


def require_wheel(rig, wheel):
    """Raise InvalidWheel if the argument is not the number of a freewheel of what is known to be a rig."""
    if not is_number_of(wheel, len(rig[1])):
        raise InvalidWheel(wheel)


def wheel_row(rig, wheel):
    """Return the coefficients of all shafts in the value of the freewheel with this number."""
    require_rig(rig)
    require_wheel(rig, wheel)
    return known_wheel_row(rig, wheel)


def are_known_burdens(rig, value):
    """Tell whether the value, any value, is burdens of what is known to be a rig."""
    return are_within(value, rig[0][0] - 1, -GREATEST_BURDEN, GREATEST_BURDEN)


def require_burdens(rig, burdens):
    """Raise InvalidBurdens if the argument is not burdens of what is known to be a rig."""
    if not are_known_burdens(rig, burdens):
        raise InvalidBurdens("not burdens of the rig")


def require_loaded(rig, engaged, burdens):
    """Raise an error if the arguments are not a rig, an engaged set of it and burdens of it."""
    require_rig_and_engaged(rig, engaged)
    require_burdens(rig, burdens)


def are_burdens(rig, value):
    """Tell whether the value, any value, is burdens of the rig."""
    require_rig(rig)
    return are_known_burdens(rig, value)
