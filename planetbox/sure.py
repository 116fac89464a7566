"""Sure speeds: how slow a shaft can turn at the least."""

from planetbox.boxes import all_engaged_sets, require_other_shaft
from planetbox.prices import price_of, require_prices
from planetbox.rigs import require_rig, require_rig_and_engaged
from planetbox.speeds import is_at_least, is_fraction
from planetbox.states import least_motions
from planetbox.wrongs import InvalidFraction


def known_sure_speed(rig, engaged, shaft):
    """Return the sure speed of what is known to be a shaft other than the input, or None."""
    found = least_motions(rig, engaged, tuple([1 if other == shaft else 0 for other in range(1, rig[0][0])]))
    if found is None:
        return None
    return found[0]


def is_sure_choice(rig, engaged, shaft, speed):
    """Tell whether the sure speed of the shaft is at least the fraction."""
    found = known_sure_speed(rig, engaged, shaft)
    return found is not None and is_at_least(found, speed)


def sure_speed(rig, engaged, shaft):
    """Return the sure speed of the shaft, or None if the engaged set is not carried with its burdens."""
    require_rig_and_engaged(rig, engaged)
    require_other_shaft(rig[0], shaft)
    return known_sure_speed(rig, engaged, shaft)


def cheapest_sure(rig, shaft, speed, prices):
    """Return the least of the sure choices with the least price, or None if there is none."""
    require_rig(rig)
    require_other_shaft(rig[0], shaft)
    if not is_fraction(speed):
        raise InvalidFraction("not a fraction")
    require_prices(rig[0], prices)
    ranked = sorted([(price_of(engaged, prices), engaged) for engaged in all_engaged_sets(rig[0])])
    for _, engaged in ranked:
        if is_sure_choice(rig, engaged, shaft, speed):
            return engaged
    return None
