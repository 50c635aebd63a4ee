"""Means of the costs of all layings that complete a part, and a laying no dearer than the mean of all."""

from spotlay.bounds import cost_by_laid
from spotlay.jobs import fixed, free_places, free_works, laid_on


def in_lowest_terms(over, under):
    """Tell the fraction of two numbers, the first from 0 on, the second from 1 on."""
    common, rest = over, under
    while rest > 0:
        common, rest = rest, common % rest
    return over // common, under // common


def sum_between(rows, free):
    """Tell the sum of all that stands in the rows between two free ones."""
    return sum(rows[one][other] for one in free for other in free)


def mean_in_two(job, part):
    """Tell the mean of a part as two numbers, the one over the other, perhaps not in lowest terms."""
    flows, ways, costs = job
    works = free_works(part)
    places = free_places(part)
    # One of so many layings has a certain free work on a certain place, and one of so many of these another one
    # on another place. Where there is no such work nothing hangs on the number, but 0 may not stand under.
    first = max(1, len(works))
    second = max(1, len(works) - 1)
    alone = sum(cost_by_laid(job, part, work, place) for work in works for place in places)
    together = sum_between(flows, works) * sum_between(ways, places)
    return fixed(job, part) * first * second + alone * second + together, first * second


def mean(job, part):
    """Tell the mean of the costs of all layings that complete the part, a fraction."""
    over, under = mean_in_two(job, part)
    return in_lowest_terms(over, under)


def place_by_mean(job, part, work):
    """Tell the free place, the first one of several, such that the mean is least with the work on it."""
    # These parts have as many free works, so that their means are over the same number.
    return min(free_places(part), key=lambda place: mean_in_two(job, laid_on(part, work, place))[0])


def by_means(job):
    """Tell the laying made work by work by the least means, and the means of all parts on the way."""
    part = (None,) * len(job[0])
    means = [mean(job, part)]
    for work in range(len(part)):
        part = laid_on(part, work, place_by_mean(job, part, work))
        means.append(mean(job, part))
    return part, means
