"""What the tests share: jobs, tables, things of every kind, and what the document says, written out."""

import functools
import itertools
import random

from spotlay.errors import LayError

FAR = 10 ** 60 - 1  # sixty figures


def square(size, tell):
    return tuple(tuple(tell(row, column) for column in range(size)) for row in range(size))


def even_job(size, flow, way, charge):
    """A job with the same flow, way and charge wherever one may stand."""
    return (
        square(size, lambda i, j: 0 if i == j else flow),
        square(size, lambda p, q: 0 if p == q else way),
        square(size, lambda i, p: charge),
    )


def empty_job(size):
    return even_job(size, 0, 0, 0)


def greatest_job(size):
    return even_job(size, 999, 999, 10 ** 6)


def mixed_job(size, seed, flow=999, way=999, charge=10 ** 6):
    """A job of numbers up to the told ones, flows and ways not mirrored."""
    source = random.Random(seed)
    return (
        square(size, lambda i, j: 0 if i == j else source.randint(0, flow)),
        square(size, lambda p, q: 0 if p == q else source.randint(0, way)),
        square(size, lambda i, p: source.randint(0, charge)),
    )


def mirrored(rows):
    return square(len(rows), lambda i, j: rows[min(i, j)][max(i, j)])


def mirrored_job(size, seed, **bounds):
    flows, ways, costs = mixed_job(size, seed, **bounds)
    return mirrored(flows), mirrored(ways), costs


def charged_job(costs):
    """A job in which nothing is sent."""
    return (square(len(costs), lambda i, j: 0), square(len(costs), lambda p, q: 0), costs)


def sample_jobs():
    """Jobs of each size, at the bounds and between them."""
    jobs = []
    for size in range(1, 9):
        jobs += [
            empty_job(size),
            greatest_job(size),
            mixed_job(size, size),
            mixed_job(size, size + 100, charge=0),
            mixed_job(size, size + 200, flow=0),
            mixed_job(size, size + 300, flow=2, way=2, charge=3),
        ]
    return jobs


def some_layings(size, seed, many=6):
    """All layings where there are few, else the first, the last and some between them."""
    if size <= 3:
        return list(itertools.permutations(range(size)))
    source = random.Random(seed)
    between = [tuple(source.sample(range(size), size)) for time in range(many)]
    return [tuple(range(size)), tuple(range(size))[::-1]] + between


def all_parts(size):
    """Every part of a job of this size."""
    things = [None] + list(range(size))
    for part in itertools.product(things, repeat=size):
        places = [place for place in part if place is not None]
        if len(set(places)) == len(places):
            yield part


def written_cost(job, part):
    """The cost of the works with a place, written out pair by pair."""
    flows, ways, costs = job
    total = 0
    for i, p in enumerate(part):
        if p is not None:
            total = total + costs[i][p]
        for j, q in enumerate(part):
            if p is not None and q is not None:
                total = total + flows[i][j] * ways[p][q]
    return total


def gone_through_least(job):
    """The least cost, all layings gone through."""
    return min(written_cost(job, laying) for laying in itertools.permutations(range(len(job[0]))))


def all_free(job):
    return (None,) * len(job[0])


def free_works_of(part):
    return [work for work, place in enumerate(part) if place is None]


def free_places_of(part):
    return sorted(set(range(len(part))) - set(part))


def completing(part):
    """All layings that complete the part."""
    works = free_works_of(part)
    for places in itertools.permutations(free_places_of(part)):
        laying = list(part)
        for work, place in zip(works, places):
            laying[work] = place
        yield tuple(laying)


class Kept:
    """A job, a laying and the deeds as the document says, written out: each deed is kept with what undoes it."""

    def __init__(self, job, laying):
        self.squares = [[list(row) for row in rows] for rows in job]
        self.places = list(laying)
        self.undone_by = []

    def job(self):
        return tuple(tuple(tuple(row) for row in rows) for rows in self.squares)

    def laying(self):
        return tuple(self.places)

    def cost(self):
        return written_cost(self.job(), self.laying())

    def put(self, at, one, other, number):
        self.undone_by.append(("put", at, one, other, self.squares[at][one][other]))
        self.squares[at][one][other] = number

    def swap(self, one, other):
        self.undone_by.append(("swap", one, other))
        self.exchange(one, other)

    def exchange(self, one, other):
        self.places[one], self.places[other] = self.places[other], self.places[one]

    def better(self):
        ahead = self.cost()
        gains = []
        for one, other in itertools.combinations(range(len(self.places)), 2):
            self.exchange(one, other)
            gains.append((ahead - self.cost(), one, other))
            self.exchange(one, other)
        most = max([gain for gain, one, other in gains], default=0)
        if most <= 0:
            return None
        one, other = [(one, other) for gain, one, other in gains if gain == most][0]
        self.swap(one, other)
        return one, other, most

    def back(self):
        word, *what = self.undone_by.pop()
        if word == "swap":
            self.exchange(*what)
        else:
            at, one, other, number = what
            self.squares[at][one][other] = number


@functools.lru_cache(maxsize=100000)
def gone_through_product(one, other):
    """The least sum of products of two tuples, all ways gone through: the first one with each of the other."""
    if not one:
        return 0
    sums = []
    for at, number in enumerate(other):
        sums.append(one[0] * number + gone_through_product(one[1:], other[:at] + other[at + 1:]))
    return min(sums)


def gone_through_sum(table):
    """The least sum of a pairing, all pairings gone through."""
    sums = []
    for columns in itertools.permutations(range(len(table))):
        sums.append(sum(map(tuple.__getitem__, table, columns)))
    return min(sums)


def said_table(job, part):
    """The bound table, by the words of the document."""
    flows, ways, costs = job
    works, places = free_works_of(part), free_places_of(part)
    rows = []
    for i in works:
        row = []
        for p in places:
            number = costs[i][p]
            for j, q in enumerate(part):
                if q is not None:
                    number = number + flows[i][j] * ways[p][q]
                    number = number + flows[j][i] * ways[q][p]
            sent = tuple(sorted(flows[i][j] for j in works if j != i))
            gone = tuple(sorted(ways[p][q] for q in places if q != p))
            row.append(number + gone_through_product(sent, gone))
        rows.append(tuple(row))
    return tuple(rows)


def said_prices(table, left, right):
    """Whether two lists are prices of the table, by the words of the document."""
    size = len(table)
    if len(left) != size or len(right) != size:
        return False
    return not any(left[i] + right[p] > table[i][p] for i in range(size) for p in range(size))


def some_parts(size, seed, many=3):
    """Parts in which none, some and all works are laid."""
    source = random.Random(seed)
    parts = [(None,) * size]
    for laying in some_layings(size, seed, many):
        parts.append(laying)
        for time in range(2):
            laid = source.sample(range(size), source.randint(0, size))
            parts.append(tuple(place if work in laid else None for work, place in enumerate(laying)))
    return parts


def sample_tables(size):
    """Tables of so many rows: ties, numbers below 0 and at both bounds, sums of two lists."""
    source = random.Random(size)
    most = 10 ** 12
    one = [source.randint(-most // 2, most // 2) for time in range(size)]
    other = [source.randint(-most // 2, most // 2) for time in range(size)]
    return [
        square(size, lambda i, p: 0),
        square(size, lambda i, p: most),
        square(size, lambda i, p: -most),
        square(size, lambda i, p: source.choice((-most, most))),
        square(size, lambda i, p: most if i == p else -most),
        square(size, lambda i, p: -most if i == p else most),
        square(size, lambda i, p: source.randint(-most, most)),
        square(size, lambda i, p: source.randint(-9, -1)),
        square(size, lambda i, p: source.randint(0, 1)),
        square(size, lambda i, p: source.randint(-1, 2)),
        square(size, lambda i, p: one[i] + other[p]),
        square(size, lambda i, p: one[i] + other[p] + (i == p)),
        # A greedy choice row by row, or column by column, goes wrong here.
        square(size, lambda i, p: (i + 1) * (p + 1)),
        square(size, lambda i, p: -(i + 1) * (p + 1)),
        square(size, lambda i, p: (i - p) ** 3),
    ]


def put(thing, path, new):
    """The nested tuple with another thing where the path leads."""
    if not path:
        return new
    at = path[0]
    return thing[:at] + (put(thing[at], path[1:], new),) + thing[at + 1:]


def found(thing, path):
    for at in path:
        thing = thing[at]
    return thing


def some_of(things, source, many):
    things = list(things)
    return things if len(things) <= many else source.sample(things, many)


def spoiled_lists(xs, others):
    """Lists near to this one: one left out, told twice, one more, two exchanged, none."""
    for at in range(len(xs)):
        yield xs[:at] + xs[at + 1:]
        yield xs[:at] + [xs[at]] + xs[at:]
    for one, other in itertools.combinations(range(len(xs)), 2):
        turned = list(xs)
        turned[one], turned[other] = xs[other], xs[one]
        yield turned
    for other in others:
        yield xs + [other]
        yield [other] + xs
    yield xs[::-1]
    yield []


def spoiled_prices(xs):
    for at, change in itertools.product(range(len(xs)), (1, -1, FAR, -FAR)):
        yield xs[:at] + [xs[at] + change] + xs[at + 1:]
    yield from spoiled_lists(xs, [0, 1, -1, -FAR])


def nested(wrap, inmost, depth):
    thing = inmost
    for level in range(depth):
        thing = wrap(thing)
    return thing


def anything():
    """Things of every kind, none of them a job."""
    things = [0, 1, -1, 7, 8, 999, 1000, 10 ** 6, 10 ** 6 + 1, FAR, -FAR, True, False, None]
    things += ["", "0", "job", " ~\t\n", "x" * 4000, "works 1"]
    things += [(), [], {}, ((), (), ()), [[], [], []], ({}, {}, {}), ("", "", ""), (None, None, None)]
    things += [[0], [0, 1], {0: 0}, {"a": 1, None: [2]}, {(0, 1): (2,), True: {}}, [None], [(0,)]]
    for inmost in (0, None, True, "x", (), [], {}):
        things.append(nested(lambda thing: (thing,), inmost, 8))
        things.append(nested(lambda thing: [thing], inmost, 8))
        things.append(nested(lambda thing: {0: thing}, inmost, 8))
        things.append(nested(lambda thing: ([{"a": thing}],), inmost, 2))
        things.append(nested(lambda thing: (thing, thing, thing), inmost, 5))
    return things


def wrong_works(size):
    """Things that are no work and no place of a job of this size."""
    return [-1, -size, size, size + 1, FAR, -FAR, True, False, None, "0", "", (0,), (), [0], [], {0: 0}, {}]


def wrong_numbers(most):
    """Things that are no number from 0 to the told one."""
    return [-1, -most, most + 1, FAR, -FAR, True, False, None, "5", "", (5,), (), [5], [], {5: 5}, {}]


def assert_told(case, expected, function, *given):
    """The answer is just this truth, and all that was handed in is as it was."""
    ahead = repr(given)
    answer = function(*given)
    case.assertIs(answer, expected, f"{function.__name__} of {ahead[:500]}")
    case.assertEqual(repr(given), ahead)


def assert_number(case, expected, function, *given):
    """The answer is just this whole number, also when asked again, and nothing was changed."""
    ahead = repr(given)
    for time in range(2):
        answer = function(*given)
        case.assertIs(type(answer), int)
        case.assertEqual(answer, expected, f"{function.__name__} of {ahead[:500]}")
        case.assertEqual(repr(given), ahead)


def assert_refused(case, refusal, function, *given):
    """It is refused with this very class, and all that was handed in is as it was."""
    ahead = repr(given)
    with case.assertRaises(LayError, msg=f"{function.__name__} of {ahead[:500]}") as caught:
        function(*given)
    case.assertIs(type(caught.exception), refusal, f"{function.__name__} of {ahead[:500]}")
    case.assertEqual(repr(given), ahead)


def assert_laying(case, job, laying, number):
    """It is a laying of the job, of the told kinds, and has this cost."""
    size = len(job[0])
    case.assertIs(type(laying), tuple)
    case.assertEqual([type(place) for place in laying], [int] * size)
    case.assertEqual(sorted(laying), list(range(size)))
    case.assertIs(type(number), int)
    case.assertEqual(written_cost(job, laying), number)


def parted_least(case, function, job):
    """What is told as (cost, laying, paper), the laying having the cost and the job being as it was."""
    ahead = repr(job)
    told = function(job)
    case.assertEqual(repr(job), ahead)
    case.assertIs(type(told), tuple)
    case.assertEqual(len(told), 3)
    number, laying, paper = told
    assert_laying(case, job, laying, number)
    return told


def assert_shown(case, function, job, most, paper, answers=None, others=(0, 1, -1)):
    """The paper shows just the numbers up to the greatest one that it shows, or none where that is None."""
    near = list(others) if most is None else [most - 1, most, most + 1]
    for number in near + [-FAR, FAR]:
        due = most is not None and number <= most
        assert_told(case, due, function, job, number, paper)
        if answers is not None:
            answers.add((len(job[0]), due))
