"""Places on a line, and the least cost there, with floors that show that no laying costs less."""

from spotlay.errors import NoLine


def fits(ways, spots):
    """Tell whether each way is the difference of the two places' numbers, without its sign."""
    return ways == tuple([tuple([abs(one - other) for other in spots]) for one in spots])


def line(job):
    """Tell a number for each place, such that the places lie on a line, or None."""
    ways = job[1]
    # Some place has the number 0, and the others have the ways from there as theirs.
    return min([spots for spots in ways if fits(ways, spots)], default=None)


def places_in_order(job):
    """List the places in their order on the line."""
    spots = line(job)
    if spots is None:
        raise NoLine("the places lie on no line")
    return sorted(range(len(spots)), key=lambda place: (spots[place], place))


def all_sets(many):
    """List all sets of so many works: each one behind those that it holds, that of all works last."""
    sets = [()]
    for work in range(many):
        sets = sets + [works + (work,) for works in sets]
    return sets


def without(works, work):
    """Tell the set with one work less."""
    return tuple([one for one in works if one != work])


def cut(flows, works):
    """Tell all that is sent between works in the set and works out of it, either way."""
    total = 0
    for out in range(len(flows)):
        if out not in works:
            total += sum(flows[work][out] + flows[out][work] for work in works)
    return total


def step_cost(job, order, works, work):
    """Tell the cost of a set and a work in it: the work on the last place that the set takes up."""
    flows, ways, costs = job
    place = order[len(works) - 1]
    total = costs[work][place]
    if len(works) < len(order):
        total += cut(flows, works) * ways[place][order[len(works)]]
    return total


def ceiling(job, order, floors, works, work):
    """Tell what the floor of a set may be at most, because of a work in it."""
    return floors[without(works, work)] + step_cost(job, order, works, work)


def laying_at_floors(job, order, floors):
    """Tell the laying whose works, from the last place on, each reach the floor of the set up to there."""
    laying = [None for place in order]
    works = tuple(range(len(order)))
    while works:
        work = min(works, key=lambda one: ceiling(job, order, floors, works, one))
        laying[work] = order[len(works) - 1]
        works = without(works, work)
    return tuple(laying)


def line_least(job):
    """Tell the least cost, a laying that has it, and floors in which all works have it."""
    order = places_in_order(job)
    sets = all_sets(len(order))
    floors = {(): 0}
    for works in sets[1:]:
        floors[works] = min([ceiling(job, order, floors, works, work) for work in works])
    return floors[sets[-1]], laying_at_floors(job, order, floors), floors


def are_floors(job, number, floors):
    """Tell of anybody's dict whether it is floors in which all works have the number or more."""
    order = places_in_order(job)
    sets = all_sets(len(order))
    # As many keys as there are sets, and each set among them: no other key is left.
    if len(floors) != len(sets) or not all(works in floors for works in sets):
        return False
    if floors[()] > 0:
        return False
    for works in sets:
        if any(floors[works] > ceiling(job, order, floors, works, work) for work in works):
            return False
    return floors[sets[-1]] >= number
