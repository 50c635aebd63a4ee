"""Exchanges of two works of a laying, and layings that no exchange betters."""

from spotlay.jobs import cost


def exchanged(laying, one, other):
    """Tell the laying in which two works, perhaps one and the same, have each other's place."""
    places = list(laying)
    places[one], places[other] = laying[other], laying[one]
    return tuple(places)


def saved(job, laying, one, other):
    """Tell what the exchange of two works saves, perhaps below 0."""
    return cost(job, laying) - cost(job, exchanged(laying, one, other))


def best_exchange(job, laying):
    """Tell the first pair of works, as sorted, that saves the most, or None where none saves."""
    best = None
    most = 0
    for one in range(len(laying)):
        for other in range(one + 1, len(laying)):
            gain = saved(job, laying, one, other)
            if gain > most:
                best = (one, other)
                most = gain
    return best


def is_still(job, laying):
    """Tell whether no exchange of two works saves anything."""
    return best_exchange(job, laying) is None


def settled(job, laying):
    """Tell exchanges, each of which saves, done one behind the other, and the still laying behind them."""
    steps = []
    pair = best_exchange(job, laying)
    # This ends: each step lessens the cost, which is a whole number from 0 on.
    while pair is not None:
        steps.append(pair)
        one, other = pair
        laying = exchanged(laying, one, other)
        pair = best_exchange(job, laying)
    return steps, laying


def is_settling(job, laying, steps):
    """Tell of anybody's pairs whether each saves where it is done and the laying behind them is still."""
    for one, other in steps:
        # Numbers below 0 would be read from the end of the laying.
        if not 0 <= one < other < len(laying):
            return False
        if saved(job, laying, one, other) <= 0:
            return False
        laying = exchanged(laying, one, other)
    return is_still(job, laying)
