"""The kind of an engaged set, and the motions that show it."""

from planetbox.boxes import require_engaged
from planetbox.errors import NotDriven, NotLoose
from planetbox.motions import active_leads
from planetbox.rows import solution


def kind_by_leads(box, leads):
    """Return the kind of an engaged set that has these lead rows."""
    if 0 in leads:
        return "held"
    if len(leads) == box[0] - 1:
        return "driven"
    return "loose"


def known_kind(box, engaged):
    """Return the kind of what is known to be an engaged set."""
    return kind_by_leads(box, active_leads(box, engaged))


def require_driven(box, engaged):
    """Raise NotDriven if what is known to be an engaged set is not driven."""
    if known_kind(box, engaged) != "driven":
        raise NotDriven("the engaged set is not driven")


def first_free_shaft(box, leads):
    """Return the first shaft other than the input that has no lead row."""
    return min([shaft for shaft in range(1, box[0]) if shaft not in leads])


def motion_at_rest(box, leads):
    """Return a motion in which the input has speed 0 and some shaft has not, for lead rows of a loose set."""
    return tuple(solution(leads, first_free_shaft(box, leads), box[0]))


def known_motion(box, engaged):
    """Return the motion of what is known to be a driven set."""
    return tuple(solution(active_leads(box, engaged), 0, box[0]))


def kind(box, engaged):
    """Return "held", "loose" or "driven"."""
    require_engaged(box, engaged)
    return known_kind(box, engaged)


def motion(box, engaged):
    """Return the motion of a driven set."""
    require_engaged(box, engaged)
    require_driven(box, engaged)
    return known_motion(box, engaged)


def two_motions(box, engaged):
    """Return two motions of a loose set: one with the input moving, one with it at rest."""
    require_engaged(box, engaged)
    leads = active_leads(box, engaged)
    if kind_by_leads(box, leads) != "loose":
        raise NotLoose("the engaged set is not loose")
    return tuple(solution(leads, 0, box[0])), motion_at_rest(box, leads)
