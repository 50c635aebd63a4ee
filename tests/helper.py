"""What the tests share: jobs, things of every kind, and costs written out pair by pair."""

import itertools
import random

FAR = 10 ** 60 - 1  # sixty figures


def square(size, tell):
    return tuple(tuple(tell(row, column) for column in range(size)) for row in range(size))


def even_job(size, flow, way, charge):
    """A job with the same flow, way and charge wherever one may stand."""
    return (
        square(size, lambda i, j: 0 if i == j else flow),
        square(size, lambda p, q: 0 if p == q else way),
        square(size, lambda i, p: charge),
    )


def empty_job(size):
    return even_job(size, 0, 0, 0)


def greatest_job(size):
    return even_job(size, 999, 999, 10 ** 6)


def mixed_job(size, seed, flow=999, way=999, charge=10 ** 6):
    """A job of numbers up to the told ones, flows and ways not mirrored."""
    source = random.Random(seed)
    return (
        square(size, lambda i, j: 0 if i == j else source.randint(0, flow)),
        square(size, lambda p, q: 0 if p == q else source.randint(0, way)),
        square(size, lambda i, p: source.randint(0, charge)),
    )


def charged_job(costs):
    """A job in which nothing is sent."""
    return (square(len(costs), lambda i, j: 0), square(len(costs), lambda p, q: 0), costs)


def sample_jobs():
    """Jobs of each size, at the bounds and between them."""
    jobs = []
    for size in range(1, 9):
        jobs += [
            empty_job(size),
            greatest_job(size),
            mixed_job(size, size),
            mixed_job(size, size + 100, charge=0),
            mixed_job(size, size + 200, flow=0),
            mixed_job(size, size + 300, flow=2, way=2, charge=3),
        ]
    return jobs


def some_layings(size, seed, many=6):
    """All layings where there are few, else the first, the last and some between them."""
    if size <= 3:
        return list(itertools.permutations(range(size)))
    source = random.Random(seed)
    between = [tuple(source.sample(range(size), size)) for time in range(many)]
    return [tuple(range(size)), tuple(range(size))[::-1]] + between


def all_parts(size):
    """Every part of a job of this size."""
    things = [None] + list(range(size))
    for part in itertools.product(things, repeat=size):
        places = [place for place in part if place is not None]
        if len(set(places)) == len(places):
            yield part


def written_cost(job, part):
    """The cost of the works with a place, written out pair by pair."""
    flows, ways, costs = job
    total = 0
    for i, p in enumerate(part):
        if p is not None:
            total = total + costs[i][p]
        for j, q in enumerate(part):
            if p is not None and q is not None:
                total = total + flows[i][j] * ways[p][q]
    return total


def put(thing, path, new):
    """The nested tuple with another thing where the path leads."""
    if not path:
        return new
    at = path[0]
    return thing[:at] + (put(thing[at], path[1:], new),) + thing[at + 1:]


def found(thing, path):
    for at in path:
        thing = thing[at]
    return thing


def nested(wrap, inmost, depth):
    thing = inmost
    for level in range(depth):
        thing = wrap(thing)
    return thing


def anything():
    """Things of every kind, none of them a job."""
    things = [0, 1, -1, 7, 8, 999, 1000, 10 ** 6, 10 ** 6 + 1, FAR, -FAR, True, False, None]
    things += ["", "0", "job", " ~\t\n", "x" * 4000, "works 1"]
    things += [(), [], {}, ((), (), ()), [[], [], []], ({}, {}, {}), ("", "", ""), (None, None, None)]
    things += [[0], [0, 1], {0: 0}, {"a": 1, None: [2]}, {(0, 1): (2,), True: {}}, [None], [(0,)]]
    for inmost in (0, None, True, "x", (), [], {}):
        things.append(nested(lambda thing: (thing,), inmost, 8))
        things.append(nested(lambda thing: [thing], inmost, 8))
        things.append(nested(lambda thing: {0: thing}, inmost, 8))
        things.append(nested(lambda thing: ([{"a": thing}],), inmost, 2))
        things.append(nested(lambda thing: (thing, thing, thing), inmost, 5))
    return things


def assert_told(case, expected, function, *given):
    """The answer is just this truth, and all that was handed in is as it was."""
    ahead = repr(given)
    answer = function(*given)
    case.assertIs(answer, expected, f"{function.__name__} of {ahead[:500]}")
    case.assertEqual(repr(given), ahead)


def assert_number(case, expected, function, *given):
    """The answer is just this whole number, also when asked again, and nothing was changed."""
    ahead = repr(given)
    for time in range(2):
        answer = function(*given)
        case.assertIs(type(answer), int)
        case.assertEqual(answer, expected, f"{function.__name__} of {ahead[:500]}")
        case.assertEqual(repr(given), ahead)
