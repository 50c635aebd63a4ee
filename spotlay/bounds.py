"""Bounds: what no laying that completes a part can cost less than."""

from spotlay.jobs import fixed, free_places, free_works
from spotlay.pairings import pairing


def least_product(one, other):
    """Tell the least sum of products of each number of the one list with one of the other."""
    # The greatest with the least: to exchange any two of the other list's numbers then saves nothing.
    return sum(low * high for low, high in zip(sorted(one), sorted(other, reverse=True)))


def cost_by_laid(job, part, work, place):
    """Tell what a free work costs on a free place, with what it and the laid works send to one another."""
    flows, ways, costs = job
    total = costs[work][place]
    for other, there in enumerate(part):
        if there is not None:
            total += flows[work][other] * ways[place][there] + flows[other][work] * ways[there][place]
    return total


def numbers_to_others(rows, one, free):
    """List the numbers in the row of one, told with the other free ones."""
    return [rows[one][other] for other in free if other != one]


def bound_table(job, part):
    """Tell the bound table of a part: a row for each free work, a column for each free place."""
    flows, ways, costs = job
    works = free_works(part)
    places = free_places(part)
    sent = [numbers_to_others(flows, work, works) for work in works]
    gone = [numbers_to_others(ways, place, places) for place in places]
    table = []
    for work, amounts in zip(works, sent):
        row = [
            cost_by_laid(job, part, work, place) + least_product(amounts, lengths)
            for place, lengths in zip(places, gone)
        ]
        table.append(tuple(row))
    return tuple(table)


def bound(job, part):
    """Tell a number that no laying that completes the part costs less than; of a laying, its cost."""
    return fixed(job, part) + pairing(bound_table(job, part))[0]
