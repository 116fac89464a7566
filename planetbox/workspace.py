"""Workspaces: a box with an engaged set that is never held, and the angles of all shafts."""

from planetbox.boxes import is_number_of, released_devices, require_box
from planetbox.errors import Full, InvalidDevice, InvalidMark, IsEngaged, IsReleased, WouldHold
from planetbox.full import with_device, without_device
from planetbox.kinds import known_kind, require_driven
from planetbox.shifts import swapped
from planetbox.turning import added, known_angles, require_turns

MOST_MARKS = 6


def would_hold(box, engaged):
    """Tell whether a box is held with these devices engaged."""
    return known_kind(box, engaged) == "held"


def require_not_held(box, engaged):
    """Raise WouldHold if a box is held with these devices engaged."""
    if would_hold(box, engaged):
        raise WouldHold("the box would be held")


def require_device(box, device):
    """Raise InvalidDevice if the argument, any value, is not the number of a device of the box."""
    if not is_number_of(device, len(box[2])):
        raise InvalidDevice(device)


def require_is_released(engaged, device):
    """Raise IsEngaged if a device is engaged."""
    if device in engaged:
        raise IsEngaged(device)


def require_is_engaged(engaged, device):
    """Raise IsReleased if a device is not engaged."""
    if device not in engaged:
        raise IsReleased(device)


def set_with(box, engaged, device):
    """Return the engaged set with one more device, or raise an error if there is no such released device."""
    require_device(box, device)
    require_is_released(engaged, device)
    return with_device(engaged, device)


def set_without(box, engaged, device):
    """Return the engaged set without one of its devices, or raise an error if there is no such engaged device."""
    require_device(box, device)
    require_is_engaged(engaged, device)
    return without_device(engaged, device)


def require_room(marks):
    """Raise Full if there are as many marks as there may be."""
    if len(marks) == MOST_MARKS:
        raise Full(MOST_MARKS)


def require_mark(marks, number):
    """Raise InvalidMark if the argument, any value, is not the number of a mark."""
    if not is_number_of(number, len(marks)):
        raise InvalidMark(number)


class Workspace:
    """A workspace of a box. Each method changes it only behind all that may raise an error."""

    def __init__(self, box):
        require_box(box)
        require_not_held(box, ())
        self._box = box
        self._engaged = ()
        self._angles = ((0, 1),) * box[0]
        self._marks = []

    def engage(self, device):
        """Engage a device."""
        wider = set_with(self._box, self._engaged, device)
        require_not_held(self._box, wider)
        self._engaged = wider

    def release(self, device):
        """Release a device."""
        self._engaged = set_without(self._box, self._engaged, device)

    def swap(self, off, on):
        """Release the first device and engage the second one at once."""
        require_device(self._box, off)
        require_device(self._box, on)
        require_is_engaged(self._engaged, off)
        require_is_released(self._engaged, on)
        other = swapped(self._engaged, off, on)
        require_not_held(self._box, other)
        self._engaged = other

    def turn(self, turns):
        """Turn the input."""
        require_driven(self._box, self._engaged)
        require_turns(turns)
        further = known_angles(self._box, self._engaged, turns)
        self._angles = tuple([added(angle, more) for angle, more in zip(self._angles, further)])

    def mark(self):
        """Make a mark and return its number."""
        require_room(self._marks)
        self._marks.append((self._engaged, self._angles))
        return len(self._marks) - 1

    def back(self, number):
        """Return to a mark, which removes all later ones."""
        require_mark(self._marks, number)
        self._engaged, self._angles = self._marks[number]
        self._marks = self._marks[:number + 1]

    def engaged(self):
        """Return the engaged set."""
        return self._engaged

    def kind(self):
        """Return the kind of the engaged set."""
        return known_kind(self._box, self._engaged)

    def angles(self):
        """Return the angles of all shafts, as fractions."""
        return self._angles

    def marks(self):
        """Return the ascending list of the numbers of the marks."""
        return list(range(len(self._marks)))

    def can_engage(self):
        """Return the ascending list of the released devices that engage would accept now."""
        released = released_devices(self._box, self._engaged)
        return [device for device in released if not would_hold(self._box, with_device(self._engaged, device))]
