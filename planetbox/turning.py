"""How far the shafts turn with the input."""

from planetbox.boxes import is_within, require_engaged
from planetbox.errors import InvalidNumber
from planetbox.kinds import known_motion, require_driven
from planetbox.speeds import fraction, speeds_of_shafts

MOST_TURNS = 1000


def require_turns(turns):
    """Raise InvalidNumber if the argument, any value, is not a number of turns of the input."""
    if not is_within(turns, -MOST_TURNS, MOST_TURNS):
        raise InvalidNumber("not a number of turns that is allowed here")


def added(first, second):
    """Return the sum of two fractions."""
    over, under = first
    other_over, other_under = second
    return fraction(over * other_under + other_over * under, under * other_under)


def known_angles(box, engaged, turns):
    """Return how far all shafts turn in what is known to be a driven set, after what is known to be turns."""
    return tuple([fraction(turns * over, under) for over, under in speeds_of_shafts(box, engaged)])


def angles(box, engaged, turns):
    """Return how far each shaft has turned after so many turns of the input in a driven set, as fractions."""
    require_engaged(box, engaged)
    require_driven(box, engaged)
    require_turns(turns)
    return known_angles(box, engaged, turns)


def first_return(box, engaged):
    """Return the least positive number of turns of the input after which all shafts have made whole turns.

    That is the speed of the input in the motion: the speeds in it have no common divisor, so no lesser
    number of turns makes whole numbers of all of them, divided by the speed of the input.
    """
    require_engaged(box, engaged)
    require_driven(box, engaged)
    return known_motion(box, engaged)[0]
