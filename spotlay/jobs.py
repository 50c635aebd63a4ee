"""Jobs, their layings and parts, and what these cost."""

MOST_WORKS = 8
MOST_SENT = 999
MOST_COST = 1000000


def is_whole(thing):
    """Tell of anything whether it is a whole number."""
    # To Python True and False are ints; here they are no numbers.
    return isinstance(thing, int) and not isinstance(thing, bool)


def is_number_up_to(thing, most):
    """Tell of anything whether it is a whole number from 0 to most."""
    return is_whole(thing) and 0 <= thing <= most


def is_tuple_of(thing, many):
    """Tell of anything whether it is a tuple of so many things."""
    return isinstance(thing, tuple) and len(thing) == many


def is_row(thing, size, most):
    """Tell of anything whether it is a tuple of size numbers from 0 to most."""
    return is_tuple_of(thing, size) and all(is_number_up_to(number, most) for number in thing)


def is_square(thing, size, most):
    """Tell of anything whether it is a tuple of size rows of size numbers from 0 to most."""
    return is_tuple_of(thing, size) and all(is_row(row, size, most) for row in thing)


def is_sent_square(thing, size):
    """Tell of anything whether it can be the flows or the ways of a job of size works."""
    return is_square(thing, size, MOST_SENT) and all(thing[at][at] == 0 for at in range(size))


def is_job(thing):
    """Tell of anything whether it is a job."""
    if not is_tuple_of(thing, 3):
        return False
    flows, ways, costs = thing
    if not isinstance(flows, tuple) or not 1 <= len(flows) <= MOST_WORKS:
        return False
    size = len(flows)
    return is_sent_square(flows, size) and is_sent_square(ways, size) and is_square(costs, size, MOST_COST)


def is_part(job, thing):
    """Tell of anything whether it is a part of the job."""
    many = len(job[0])
    if not is_tuple_of(thing, many):
        return False
    places = [place for place in thing if place is not None]
    # Only numbers may come to the set: lists and dicts can't be members.
    if not all(is_number_up_to(place, many - 1) for place in places):
        return False
    return len(set(places)) == len(places)


def is_laying(job, thing):
    """Tell of anything whether it is a laying of the job."""
    return is_part(job, thing) and all(place is not None for place in thing)


def free_works(part):
    """List the works of a part without a place, rising."""
    return [work for work, place in enumerate(part) if place is None]


def free_places(part):
    """List the places of a part that no work has, rising."""
    # A job has as many places as works.
    return [place for place in range(len(part)) if place not in part]


def laid_on(part, work, place):
    """Tell the part in which one more work is laid."""
    return part[:work] + (place,) + part[work + 1:]


def fixed(job, part):
    """Tell the fixed cost of a part: that of its laid works alone."""
    flows, ways, costs = job
    laid = [work for work, place in enumerate(part) if place is not None]
    total = sum(costs[work][part[work]] for work in laid)
    for one in laid:
        for other in laid:
            total += flows[one][other] * ways[part[one]][part[other]]
    return total


def cost(job, laying):
    """Tell the cost of a laying."""
    # A laying is a part in which none is free.
    return fixed(job, laying)
