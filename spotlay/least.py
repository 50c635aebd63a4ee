"""The least cost of all layings, and trees that show that none costs less."""

from spotlay.bounds import bound_table
from spotlay.errors import TooMany
from spotlay.jobs import cost, fixed, free_places, free_works, laid_on
from spotlay.pairings import are_prices, pairing

MOST_SEARCHED = 6


def all_layings(many):
    """List all layings of so many works."""
    layings = [()]
    for place in range(many):
        layings = [laying[:at] + (place,) + laying[at:] for laying in layings for at in range(place + 1)]
    return layings


def grown(job, part, number):
    """Tell a tree that shows for a part a number that no laying costs less than."""
    total, columns, left, right = pairing(bound_table(job, part))
    if fixed(job, part) + total >= number:
        return ("cut", left, right)
    # This ends: where all works are laid the bound is a laying's cost.
    work = free_works(part)[0]
    branches = [grown(job, laid_on(part, work, place), number) for place in free_places(part)]
    return ("lay", work, branches)


def least(job):
    """Tell the least cost of all layings, a laying that has it, and a tree that shows that none costs less."""
    many = len(job[0])
    if many > MOST_SEARCHED:
        raise TooMany("the least is told of jobs of at most six works")
    laying = min(all_layings(many), key=lambda one: cost(job, one))
    number = cost(job, laying)
    return number, laying, grown(job, (None,) * many, number)


def shows_for(job, part, number, tree):
    """Tell of anybody's tree whether it shows the number for a part."""
    word, one, other = tree
    if word == "cut":
        return are_prices(bound_table(job, part), number - fixed(job, part), one, other)
    places = free_places(part)
    # Looked for among the free ones: numbers below 0 would be read from the end of the part.
    if one not in free_works(part) or len(other) != len(places):
        return False
    return all(shows_for(job, laid_on(part, one, place), number, branch) for place, branch in zip(places, other))


def shows(job, number, tree):
    """Tell of anybody's tree whether it shows that no laying of the job costs less than the number."""
    return shows_for(job, (None,) * len(job[0]), number, tree)
