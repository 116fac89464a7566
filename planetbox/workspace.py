"""Workspaces: a box with an engaged set that is never held, and the angles of all shafts."""

from planetbox.boxes import is_number_of, released_devices, require_box
from planetbox.errors import Full, InvalidDevice, InvalidMark, IsEngaged, IsReleased, WouldHold
from planetbox.full import with_device, without_device
from planetbox.kinds import known_kind, require_driven
from planetbox.shifts import swapped
from planetbox.turning import added, known_angles, require_turns

MOST_MARKS = 6


def would_hold(box, engaged):
    """Tell whether a box is held with these devices engaged."""
    return known_kind(box, engaged) == "held"


def require_not_held(box, engaged):
    """Raise WouldHold if a box is held with these devices engaged."""
    if would_hold(box, engaged):
        raise WouldHold("the box would be held")


class Workspace:
    """A workspace of a box. Each method changes it only behind all that may raise an error."""

    def __init__(self, box):
        require_box(box)
        require_not_held(box, ())
        self._box = box
        self._engaged = ()
        self._angles = ((0, 1),) * box[0]
        self._marks = []

    def _require_device(self, device):
        if not is_number_of(device, len(self._box[2])):
            raise InvalidDevice(device)

    def _require_is_released(self, device):
        if device in self._engaged:
            raise IsEngaged(device)

    def _require_is_engaged(self, device):
        if device not in self._engaged:
            raise IsReleased(device)

    def engage(self, device):
        """Engage a device."""
        self._require_device(device)
        self._require_is_released(device)
        wider = with_device(self._engaged, device)
        require_not_held(self._box, wider)
        self._engaged = wider

    def release(self, device):
        """Release a device."""
        self._require_device(device)
        self._require_is_engaged(device)
        self._engaged = without_device(self._engaged, device)

    def swap(self, off, on):
        """Release the first device and engage the second one at once."""
        self._require_device(off)
        self._require_device(on)
        self._require_is_engaged(off)
        self._require_is_released(on)
        other = swapped(self._engaged, off, on)
        require_not_held(self._box, other)
        self._engaged = other

    def turn(self, turns):
        """Turn the input."""
        require_driven(self._box, self._engaged)
        require_turns(turns)
        further = known_angles(self._box, self._engaged, turns)
        self._angles = tuple([added(angle, more) for angle, more in zip(self._angles, further)])

    def mark(self):
        """Make a mark and return its number."""
        number = len(self._marks)
        if number == MOST_MARKS:
            raise Full(MOST_MARKS)
        self._marks.append((self._engaged, self._angles))
        return number

    def back(self, number):
        """Return to a mark, which removes all later ones."""
        if not is_number_of(number, len(self._marks)):
            raise InvalidMark(number)
        self._engaged, self._angles = self._marks[number]
        self._marks = self._marks[:number + 1]

    def engaged(self):
        """Return the engaged set."""
        return self._engaged

    def kind(self):
        """Return the kind of the engaged set."""
        return known_kind(self._box, self._engaged)

    def angles(self):
        """Return the angles of all shafts, as fractions."""
        return self._angles

    def marks(self):
        """Return the ascending list of the numbers of the marks."""
        return list(range(len(self._marks)))

    def can_engage(self):
        """Return the ascending list of the released devices that engage would accept now."""
        released = released_devices(self._box, self._engaged)
        return [device for device in released if not would_hold(self._box, with_device(self._engaged, device))]
