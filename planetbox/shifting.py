"""Load shifts: from one carried set to another one by single devices, through carried sets only."""

from planetbox.boxes import all_engaged_sets, require_engaged
from planetbox.full import with_device, without_device
from planetbox.rigs import require_burdens, require_rig
from planetbox.states import known_state
from planetbox.wrongs import NotCarried


def is_carried(rig, burdens, engaged):
    """Tell whether what is known to be an engaged set is carried with the burdens."""
    return known_state(rig, engaged, burdens) == "carried"


def require_carried(rig, burdens, engaged):
    """Raise NotCarried if what is known to be an engaged set is not carried with the burdens."""
    if not is_carried(rig, burdens, engaged):
        raise NotCarried("the engaged set is not carried with the burdens")


def toggled(engaged, device):
    """Return the engaged set with one more device, or, if it has the device, without it."""
    if device in engaged:
        return without_device(engaged, device)
    return with_device(engaged, device)


def steps_before(rig, burdens, first):
    """Return a dict of all sets reached from a carried set, each with the set before it, in as few steps as can be.

    The carried set itself has None.
    """
    carried = {engaged: is_carried(rig, burdens, engaged) for engaged in all_engaged_sets(rig[0])}
    before = {first: None}
    latest = [first]
    while latest:
        reached = []
        for engaged in latest:
            for device in range(len(rig[0][2])):
                other = toggled(engaged, device)
                if carried[other] and other not in before:
                    before[other] = engaged
                    reached.append(other)
        latest = reached
    return before


def load_shift(rig, burdens, first, second):
    """Return a load shift with as few steps as possible from the first to the second engaged set, or None."""
    require_rig(rig)
    require_burdens(rig, burdens)
    require_engaged(rig[0], first)
    require_engaged(rig[0], second)
    require_carried(rig, burdens, first)
    require_carried(rig, burdens, second)
    # Looked for from its end, so that the steps before are those behind.
    behind = steps_before(rig, burdens, second)
    if first not in behind:
        return None
    steps = [first]
    while steps[-1] != second:
        steps.append(behind[steps[-1]])
    return steps


def reached_sets(rig, burdens, first):
    """Return the ascending list of all sets that are reached from the first one, itself, too."""
    require_rig(rig)
    require_burdens(rig, burdens)
    require_engaged(rig[0], first)
    require_carried(rig, burdens, first)
    return sorted(list(steps_before(rig, burdens, first)))
