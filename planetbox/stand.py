"""Stands: a box with freewheels and burdens, whose input turns forward as long as it is carried and settled."""

from planetbox.boxes import is_within, require_box, require_other_shaft
from planetbox.courses import values_in
from planetbox.errors import Full, InvalidNumber
from planetbox.firm import known_firm_wheels
from planetbox.rigs import GREATEST_BURDEN, MOST_WHEELS, is_freewheel, require_wheel
from planetbox.settled import settled_motions
from planetbox.speeds import fraction
from planetbox.states import is_known_barred, known_state
from planetbox.turning import MOST_TURNS, added
from planetbox.workspace import require_mark, require_room, set_with, set_without
from planetbox.wrongs import InvalidWheel, WouldBar

NOTHING = (0, 1)


def require_not_barred(rig, engaged):
    """Raise WouldBar if a rig is barred with these devices engaged."""
    if is_known_barred(rig, engaged):
        raise WouldBar("the engaged set would be barred")


def without_entry(entries, number):
    """Return the tuple without one of its entries."""
    return entries[:number] + entries[number + 1:]


def grown(totals, growths, turns, under):
    """Return the tuple of the fractions, each grown by its growth, divided by the second number, at every turn."""
    return tuple([added(total, fraction(turns * growth, under)) for total, growth in zip(totals, growths)])


class Stand:
    """A stand of a box. Each method changes it only behind all that may raise an error."""

    def __init__(self, box):
        require_box(box)
        require_not_barred((box, ()), ())
        self._box = box
        self._wheels = ()
        self._engaged = ()
        self._burdens = (0,) * (box[0] - 1)
        self._angles = (NOTHING,) * box[0]
        self._leads = ()
        self._spent = NOTHING
        self._marks = []

    def engage(self, device):
        """Engage a device."""
        wider = set_with(self._box, self._engaged, device)
        require_not_barred(self.rig(), wider)
        self._engaged = wider

    def release(self, device):
        """Release a device."""
        self._engaged = set_without(self._box, self._engaged, device)

    def add_wheel(self, wheel):
        """Put a freewheel behind the others and return its number."""
        if not is_freewheel(wheel, self._box[0]):
            raise InvalidWheel(wheel)
        number = len(self._wheels)
        if number == MOST_WHEELS:
            raise Full(MOST_WHEELS)
        wheels = self._wheels + (wheel,)
        require_not_barred((self._box, wheels), self._engaged)
        self._wheels = wheels
        self._leads = self._leads + (NOTHING,)
        return number

    def drop_wheel(self, number):
        """Remove a freewheel: the later ones are numbered one less."""
        require_wheel(self.rig(), number)
        self._wheels = without_entry(self._wheels, number)
        self._leads = without_entry(self._leads, number)

    def lay(self, shaft, burden):
        """Set the burden of a shaft."""
        require_other_shaft(self._box, shaft)
        if not is_within(burden, -GREATEST_BURDEN, GREATEST_BURDEN):
            raise InvalidNumber("not a burden")
        self._burdens = self._burdens[:shaft - 1] + (burden,) + self._burdens[shaft:]

    def turn(self, turns):
        """Turn the input forward, and all shafts as in the only least course."""
        least, course = settled_motions(self.rig(), self._engaged, self._burdens)
        if not is_within(turns, 0, MOST_TURNS):
            raise InvalidNumber("not a number of turns forward that is allowed here")
        self._angles = grown(self._angles, course, turns, course[0])
        self._leads = grown(self._leads, values_in(self.rig(), course), turns, course[0])
        self._spent = added(self._spent, fraction(turns * least[0], least[1]))

    def mark(self):
        """Make a mark and return its number."""
        require_room(self._marks)
        laid = (self._wheels, self._engaged, self._burdens)
        self._marks.append((laid, (self._angles, self._leads, self._spent)))
        return len(self._marks) - 1

    def back(self, number):
        """Return to a mark, which removes all later ones."""
        require_mark(self._marks, number)
        laid, turned = self._marks[number]
        self._wheels, self._engaged, self._burdens = laid
        self._angles, self._leads, self._spent = turned
        self._marks = self._marks[:number + 1]

    def rig(self):
        """Return the rig."""
        return self._box, self._wheels

    def engaged(self):
        """Return the engaged set."""
        return self._engaged

    def burdens(self):
        """Return the burdens."""
        return self._burdens

    def angles(self):
        """Return the angles of all shafts, as fractions."""
        return self._angles

    def leads(self):
        """Return the leads of all freewheels, as fractions."""
        return self._leads

    def spent(self):
        """Return the spent work, a fraction."""
        return self._spent

    def marks(self):
        """Return the ascending list of the numbers of the marks."""
        return list(range(len(self._marks)))

    def state(self):
        """Return the state of the engaged set with the burdens."""
        return known_state(self.rig(), self._engaged, self._burdens)

    def firm(self):
        """Return the ascending tuple of the firm freewheels."""
        return known_firm_wheels(self.rig(), self._engaged, self._burdens)
