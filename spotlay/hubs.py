"""Hubs, and the least cost of a job that has one, with prices that show that no laying costs less."""

from spotlay.bounds import bound_table
from spotlay.errors import NoHub
from spotlay.jobs import fixed, free_places, free_works, laid_on
from spotlay.pairings import are_prices, pairing


def is_hub(flows, work):
    """Tell whether nothing is sent between two other works."""
    for one, row in enumerate(flows):
        for other, number in enumerate(row):
            if number > 0 and work not in (one, other):
                return False
    return True


def hub(job):
    """Tell the least hub of a job, or None."""
    flows = job[0]
    return min([work for work in range(len(flows)) if is_hub(flows, work)], default=None)


def hub_parts(job):
    """List, for each place, the part in which the least hub alone is laid, on that place."""
    middle = hub(job)
    if middle is None:
        raise NoHub("something is sent past each work")
    part = (None,) * len(job[0])
    return [laid_on(part, middle, place) for place in range(len(part))]


def hub_table(job, part):
    """Tell the table of the other works and the other places, the hub being laid alone."""
    # Nothing is sent between two of them, so that the bound table holds just what they cost with the hub.
    return bound_table(job, part)


def completed(part, columns):
    """Tell the laying in which each free work is on the free place that its row is paired with."""
    laying = list(part)
    places = free_places(part)
    for work, column in zip(free_works(part), columns):
        laying[work] = places[column]
    return tuple(laying)


def hub_least(job):
    """Tell the least cost, a laying that has it, and for each place of the hub prices that show it."""
    ends = []
    papers = []
    for part in hub_parts(job):
        total, columns, left, right = pairing(hub_table(job, part))
        ends.append((fixed(job, part) + total, completed(part, columns)))
        papers.append((left, right))
    number, laying = min(ends)
    return number, laying, papers


def hub_shows(job, number, papers):
    """Tell of anybody's list of pairs of lists whether it shows that no laying costs less than the number."""
    parts = hub_parts(job)
    if len(papers) != len(parts):
        return False
    for part, (left, right) in zip(parts, papers):
        if not are_prices(hub_table(job, part), number - fixed(job, part), left, right):
            return False
    return True
