"""Prices of devices, the cheapest full sets, and shifts to them in which no swap raises the price."""

from planetbox.boxes import are_within, require_box, require_engaged
from planetbox.errors import InvalidPrices
from planetbox.extending import completed
from planetbox.full import require_full
from planetbox.shifts import known_swaps, sets_towards

LEAST_PRICE = 0
GREATEST_PRICE = 1000


def are_prices(box, value):
    """Tell whether the value, any value, is prices for the box."""
    return are_within(value, len(box[2]), LEAST_PRICE, GREATEST_PRICE)


def require_prices(box, prices):
    """Raise InvalidPrices if the argument is not prices for what is known to be a box."""
    if not are_prices(box, prices):
        raise InvalidPrices("not prices for the box")


def price_of(engaged, prices):
    """Return the price of an engaged set."""
    return sum([prices[device] for device in engaged])


def cheapest_of(choices, prices):
    """Return the least of those sets of the list, not an empty one, that have the least price."""
    _, choice = min([(price_of(engaged, prices), engaged) for engaged in choices])
    return choice


def known_cheapest(box, prices):
    """Return the least of the cheapest full sets, or None, for what is known to be prices for a box.

    What one device bars, another one of a full set replaces; so the cheapest device that fits is always right,
    and the first one of equally cheap ones.
    """
    cheap_first = sorted([(price, device) for device, price in enumerate(prices)])
    return completed(box, (), [device for _, device in cheap_first])


def cheaper_swaps(box, engaged, prices):
    """Return the ascending list of the full sets with a lower price that one swap makes from a full set."""
    limit = price_of(engaged, prices)
    return [other for other in known_swaps(box, engaged) if price_of(other, prices) < limit]


def cheapest(box, prices):
    """Return the least of the cheapest full sets, or None if there is no full set."""
    require_box(box)
    require_prices(box, prices)
    return known_cheapest(box, prices)


def cheaper_swap(box, engaged, prices):
    """Return a full set with a lower price that is made from a full set by one swap, or None."""
    require_engaged(box, engaged)
    require_full(box, engaged)
    require_prices(box, prices)
    choices = cheaper_swaps(box, engaged, prices)
    if not choices:
        return None
    return cheapest_of(choices, prices)


def falling_shift(box, engaged, prices):
    """Return a falling shift from a full set to the set that cheapest returns, with the fewest swaps.

    Some device of a cheapest set can take the place of the released one, and be replaced by it in the
    cheapest set. It is not dearer than the released one, or the cheapest set would not be a cheapest one.
    So the cheapest set that one such swap leads to is not dearer than the set before it.
    """
    require_engaged(box, engaged)
    require_full(box, engaged)
    require_prices(box, prices)
    goal = known_cheapest(box, prices)
    steps = [engaged]
    while steps[-1] != goal:
        steps.append(cheapest_of(sets_towards(box, steps[-1], goal), prices))
    return steps
