"""Alike works, alike places, and the layings that are alike by them."""

from spotlay.exchanges import exchanged


def are_alike(sent, charges, one, other):
    """Tell whether two may be exchanged, in the rows and columns of what is sent and in the rows of charges."""
    turned = tuple([exchanged(row, one, other) for row in exchanged(sent, one, other)])
    return sent == turned and charges[one] == charges[other]


def sets_of_alike(sent, charges):
    """List the sets of those that are alike, sorted."""
    many = len(sent)
    # Those alike to one are alike to one another: the first of them stands for the set.
    firsts = [min([one for one in range(many) if are_alike(sent, charges, one, other)]) for other in range(many)]
    return [tuple([other for other in range(many) if firsts[other] == one]) for one in sorted(set(firsts))]


def alike_works(job):
    """List the sets of alike works, sorted."""
    flows, ways, costs = job
    return sets_of_alike(flows, costs)


def alike_places(job):
    """List the sets of alike places, sorted."""
    flows, ways, costs = job
    return sets_of_alike(ways, list(zip(*costs)))


def set_numbers(sets):
    """Tell a dict from each member of the sets to the number of its set."""
    return {member: number for number, members in enumerate(sets) for member in members}


def first_alike(job, laying):
    """Tell the first laying, as sorted, of those that are alike to one."""
    work_sets = alike_works(job)
    set_of_work = set_numbers(work_sets)
    set_of_place = set_numbers(alike_places(job))
    # Layings are alike just where as many works of each set are on places of each set.
    due = [[set_of_place[laying[work]] for work in works] for works in work_sets]
    free = list(range(len(laying)))
    first = []
    for work in range(len(laying)):
        wanted = due[set_of_work[work]]
        place = min([one for one in free if set_of_place[one] in wanted])
        wanted.remove(set_of_place[place])
        free.remove(place)
        first.append(place)
    return tuple(first)


def taken_from(left, many):
    """List what may be left of some numbers when so many are taken away from them together."""
    rests = [((), many)]
    for number in left:
        rests = [
            (rest + (number - taken,), due - taken)
            for rest, due in rests
            for taken in range(min(number, due) + 1)
        ]
    return [rest for rest, due in rests if due == 0]


def how_many_unlike(job):
    """Tell how many layings there can be at most, no two of which are alike."""
    # How many ways there are to come to so many free places of each set, set of works by set of works.
    counts = {tuple([len(places) for places in alike_places(job)]): 1}
    for works in alike_works(job):
        further = {}
        for left in counts:
            for rest in taken_from(left, len(works)):
                further[rest] = further.get(rest, 0) + counts[left]
        counts = further
    return sum(counts.values())
