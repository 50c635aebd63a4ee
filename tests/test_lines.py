import itertools
import random
import time
import unittest

from helper import (
    FAR, assert_refused, assert_told, empty_job, even_job, gone_through_least, greatest_job, mixed_job, parted_least,
    put, sample_jobs, some_of, square,
)
from spotlay.errors import NoLine
from spotlay.lines import are_floors, line, line_least


def line_ways(spots):
    return square(len(spots), lambda p, q: spots[p] - spots[q] if spots[p] > spots[q] else spots[q] - spots[p])


def on_line(spots, flows=None, costs=None):
    """A job whose places lie on a line."""
    zeros = square(len(spots), lambda i, j: 0)
    return (zeros if flows is None else flows, line_ways(spots), zeros if costs is None else costs)


def drawn_spots(size, source, most):
    """Numbers in any order, 0 among them, often some of them the same."""
    spots = [source.randint(0, most) for place in range(size)]
    return tuple(spot - min(spots) for spot in spots)


def some_spots(size):
    source = random.Random(size)
    found = [(0,) * size, tuple(range(size)), tuple(range(size))[::-1]]
    found += [(0,) * (size - 1) + (999,), (999,) * (size - 1) + (0,)] if size > 1 else []
    found += [tuple(999 * (place % 2) for place in range(size))]
    for most in (1, 2, 5, 30, 999):
        found += [drawn_spots(size, source, most) for draw in range(4)]
    return found


def is_numbering(ways, spots):
    """Whether places with these numbers have these ways, by the words of the document."""
    if 0 not in spots or min(spots) < 0:
        return False
    pairs = itertools.product(range(len(ways)), repeat=2)
    return all(ways[p][q] in (spots[p] - spots[q], spots[q] - spots[p]) for p, q in pairs)


def said_line(job):
    """The first numbers as sorted, with each place as the beginning of the line."""
    ways = job[1]
    fitting = [row for row in ways if is_numbering(ways, row)]
    return sorted(fitting)[0] if fitting else None


def line_jobs(size):
    """Jobs on a line: flows mirrored or not, numbers great and small, none of them, all of them the same."""
    source = random.Random(100 + size)
    for number, spots in enumerate(some_spots(size)):
        flow, charge = source.choice((1, 9, 999)), source.choice((1, 99, 10 ** 6))
        flows, ways, costs = mixed_job(size, number, flow=flow, charge=charge)
        mirrored = square(size, lambda i, j: flows[min(i, j)][max(i, j)])
        yield on_line(spots, source.choice((flows, mirrored)), costs)
        yield on_line(spots, mixed_job(size, number, flow=2)[0])
        yield on_line(spots, None, costs)
    yield on_line(tuple(range(size)))
    greatest = greatest_job(size)
    yield on_line((0,) * size, greatest[0], greatest[2])
    yield on_line((0,) * (size // 2) + (999,) * (size - size // 2), greatest[0], greatest[2])
    yield on_line(tuple(999 * place // size for place in range(size)), greatest[0], greatest[2])


def off_line_jobs():
    """Jobs whose places lie on no line."""
    for size in range(3, 9):
        yield greatest_job(size)
        yield even_job(size, 0, 1, 0)
        yield mixed_job(size, size)
        for spots in some_spots(size)[:6]:
            flows, ways, costs = on_line(spots, mixed_job(size, 4, flow=9)[0])
            yield flows, put(ways, (0, size - 1), (ways[0][size - 1] + 1) % 1000), costs
    for one, other in ((0, 1), (1, 0), (999, 998), (0, 999)):
        yield (((0, 5), (7, 0)), ((0, one), (other, 0)), ((1, 2), (3, 4)))


class Line(unittest.TestCase):
    def assert_line(self, job, due):
        ahead = repr(job)
        for again in range(2):
            told = line(job)
            if due is None:
                self.assertIsNone(told, ahead)
            else:
                self.assertIs(type(told), tuple)
                self.assertEqual([type(number) for number in told], [int] * len(due))
                self.assertEqual(told, due)
            self.assertEqual(repr(job), ahead)

    def test_by_hand(self):
        self.assert_line(on_line((3, 0, 7)), (3, 0, 7))
        self.assert_line(on_line((4, 7, 0)), (3, 0, 7))
        self.assert_line(on_line((0, 2, 2, 5)), (0, 2, 2, 5))
        self.assert_line(on_line((5, 3, 3, 0)), (0, 2, 2, 5))
        self.assert_line((((0, 0), (0, 0)), ((0, 1), (2, 0)), ((0, 0), (0, 0))), None)

    def test_of_one_work(self):
        for job in (empty_job(1), greatest_job(1), mixed_job(1, 3)):
            self.assert_line(job, (0,))

    def test_of_two_works(self):
        for way, back in itertools.product((0, 1, 2, 998, 999), repeat=2):
            job = (((0, 1), (2, 0)), ((0, way), (back, 0)), ((3, 4), (5, 6)))
            self.assert_line(job, (0, way) if way == back else None)

    def test_all_at_one_spot(self):
        for size in range(1, 9):
            self.assert_line(empty_job(size), (0,) * size)
            self.assert_line(even_job(size, 999, 0, 10 ** 6), (0,) * size)

    def test_the_first_one_as_sorted_of_two(self):
        for size in range(1, 9):
            for spots in some_spots(size):
                turned = tuple(max(spots) - spot for spot in spots)
                self.assert_line(on_line(spots), min(spots, turned))
                self.assert_line(on_line(turned), min(spots, turned))

    def test_drawn_jobs_against_each_place_as_the_beginning(self):
        for size in range(1, 9):
            for job in line_jobs(size):
                self.assertIsNotNone(said_line(job))
                self.assert_line(job, said_line(job))
        for job in sample_jobs():
            self.assert_line(job, said_line(job))

    def test_all_ways_of_three_places_against_all_numbers(self):
        numbers = [spots for spots in itertools.product(range(3), repeat=3) if 0 in spots]
        lines = 0
        for a, b, c, d, e, f in itertools.product(range(3), repeat=6):
            ways = ((0, a, b), (c, 0, d), (e, f, 0))
            due = next((spots for spots in numbers if is_numbering(ways, spots)), None)
            lines += due is not None
            zeros = square(3, lambda i, j: 0)
            self.assert_line((zeros, ways, zeros), due)
        self.assertTrue(5 < lines < 20)

    def test_all_mirrored_ways_of_four_places_against_all_numbers(self):
        numbers = [spots for spots in itertools.product(range(4), repeat=4) if 0 in spots]
        due = {}
        for spots in numbers:
            due.setdefault(line_ways(spots), spots)
        zeros = square(4, lambda i, j: 0)
        for a, b, c, d, e, f in itertools.product(range(4), repeat=6):
            ways = ((0, a, b, c), (a, 0, d, e), (b, d, 0, f), (c, e, f, 0))
            told = line((zeros, ways, zeros))
            self.assertEqual(told, due.get(ways))

    def test_one_way_one_more_or_less(self):
        for size in range(2, 9):
            for spots in some_spots(size):
                flows, ways, costs = on_line(spots)
                for p, q in itertools.permutations(range(size), 2):
                    for number in (ways[p][q] - 1, ways[p][q] + 1):
                        if 0 <= number <= 999:
                            self.assertIsNone(line((flows, put(ways, (p, q), number), costs)))

    def test_a_way_and_its_way_back_both_one_more(self):
        for size in range(2, 9):
            for spots in some_spots(size):
                flows, ways, costs = on_line(spots)
                for p, q in itertools.combinations(range(size), 2):
                    if ways[p][q] < 999:
                        turned = put(put(ways, (p, q), ways[p][q] + 1), (q, p), ways[p][q] + 1)
                        due = turned[0] if size == 2 else None
                        self.assert_line((flows, turned, costs), due)

    def test_two_places_ways_exchanged(self):
        spoiled = 0
        for size in range(3, 9):
            for spots in some_spots(size):
                flows, ways, costs = on_line(spots)
                for p, q in itertools.combinations(range(size), 2):
                    rows = ways
                    for r in set(range(size)) - {p, q}:
                        rows = put(put(rows, (p, r), ways[q][r]), (q, r), ways[p][r])
                    self.assert_line((flows, rows, costs), said_line((flows, rows, costs)))
                    r = next(place for place in range(size) if place not in (p, q))
                    rows = put(put(ways, (p, r), ways[q][r]), (q, r), ways[p][r])
                    rows = put(put(rows, (r, p), ways[r][q]), (r, q), ways[r][p])
                    due = said_line((flows, rows, costs))
                    spoiled += due is None
                    self.assert_line((flows, rows, costs), due)
        self.assertTrue(spoiled > 500)

    def test_two_places_exchanged_throughout_lie_on_the_line_still(self):
        for size in range(2, 9):
            for spots in some_spots(size):
                for p, q in itertools.combinations(range(size), 2):
                    turned = list(spots)
                    turned[p], turned[q] = spots[q], spots[p]
                    self.assert_line(on_line(tuple(turned)), said_line(on_line(tuple(turned))))

    def test_ways_that_are_not_mirrored(self):
        for job in off_line_jobs():
            self.assert_line(job, None)

    def test_flows_and_costs_do_not_count(self):
        for size in range(1, 9):
            for spots in some_spots(size)[:8]:
                flows, ways, costs = mixed_job(size, 6)
                self.assertEqual(line((flows, line_ways(spots), costs)), line(on_line(spots)))


def order_of(job):
    """The places' order on the line, by the words of the document."""
    spots = said_line(job)
    return [place for spot, place in sorted(zip(spots, range(len(spots))))]


def said_cut(job, works):
    flows = job[0]
    total = 0
    for i, j in itertools.product(range(len(flows)), repeat=2):
        if (i in works) != (j in works):
            total += flows[i][j]
    return total


def set_cost(job, order, works, i):
    """The cost of a set of works and a work in it, by the words of the document."""
    ways, costs = job[1:]
    ahead = len(works) - 1
    place = [place for at, place in enumerate(order) if at == ahead][0]
    total = costs[i][place]
    if ahead < len(order) - 1:
        total += said_cut(job, works) * ways[place][order[ahead + 1]]
    return total


def sets_of(size):
    return [works for many in range(size + 1) for works in itertools.combinations(range(size), many)]


def ceilings(job):
    """A list of (set, set without a work, the cost of set and work)."""
    order = order_of(job)
    found = []
    for works in sets_of(len(order)):
        for i in works:
            found.append((works, tuple(work for work in works if work != i), set_cost(job, order, works, i)))
    return found


def said_floors(job, limits, number, floors):
    """Whether it is floors in which all works have the number or more, by the words of the document."""
    size = len(job[0])
    if set(floors) != set(sets_of(size)) or floors[()] > 0:
        return False
    if any(floors[works] > floors[rest] + most for works, rest, most in limits):
        return False
    return floors[tuple(range(size))] >= number


def slack_floors(job, limits, source):
    """Floors that are often lower than they might be."""
    floors = {(): -source.choice((0, 0, 3))}
    for works in sets_of(len(job[0]))[1:]:
        most = min(floors[rest] + cost for one, rest, cost in limits if one == works)
        floors[works] = most - source.choice((0, 0, 0, 1, 5, 10 ** 9))
    return floors


class LineLeast(unittest.TestCase):
    def assert_least(self, job):
        size = len(job[0])
        number, laying, floors = parted_least(self, line_least, job)
        self.assertIs(type(floors), dict)
        self.assertEqual(sorted(floors), sorted(sets_of(size)))
        for works, floor in floors.items():
            self.assertIs(type(works), tuple)
            self.assertEqual([type(work) for work in works], [int] * len(works))
            self.assertIs(type(floor), int)
        self.assertEqual(floors[tuple(range(size))], number)
        self.assertTrue(said_floors(job, ceilings(job), number, floors))
        assert_told(self, True, are_floors, job, number, floors)
        return number

    def test_by_hand(self):
        # All that is sent goes between works 0 and 2: they lie side by side, at the two nearest places.
        job = on_line((0, 5, 8), ((0, 0, 2), (0, 0, 0), (3, 0, 0)))
        self.assertEqual(self.assert_least(job), 5 * 3)
        # To be on their cheap places the works go far.
        job = on_line((0, 5, 8), ((0, 0, 2), (0, 0, 0), (3, 0, 0)), ((0, 90, 90), (90, 0, 90), (90, 90, 0)))
        self.assertEqual(self.assert_least(job), 5 * 8)
        self.assertEqual(line_least(job)[1], (0, 1, 2))

    def test_of_one_work(self):
        for charge in (0, 7, 10 ** 6):
            told = line_least((((0,),), ((0,),), ((charge,),)))
            self.assertEqual(told[:2], (charge, (0,)))
            self.assertEqual(told[2][(0,)], charge)
            self.assertEqual(sorted(told[2]), [(), (0,)])

    def test_against_all_layings(self):
        for size in range(1, 7):
            for job in line_jobs(size):
                self.assertEqual(self.assert_least(job), gone_through_least(job))

    def test_all_jobs_of_two_works_of_few_numbers(self):
        for flow, back, way, a, b, c in itertools.product((0, 1), (0, 2), (0, 3), (0, 1), (0, 5), (0, 7)):
            job = (((0, flow), (back, 0)), ((0, way), (way, 0)), ((a, b), (c, 0)))
            self.assertEqual(self.assert_least(job), gone_through_least(job))

    def test_seven_and_eight_works(self):
        for size in (7, 8):
            for job in line_jobs(size):
                self.assert_least(job)

    def test_the_greatest_numbers(self):
        for size in range(1, 9):
            flows, ways, costs = greatest_job(size)
            spots = tuple(999 if place % 2 else 0 for place in range(size))
            halves = (size // 2) * (size - size // 2)
            self.assertEqual(self.assert_least(on_line(spots, flows, costs)), size * 10 ** 6 + 2 * halves * 999 * 999)

    def test_without_flows_and_without_costs(self):
        for size in range(1, 9):
            for spots in some_spots(size)[:6]:
                self.assertEqual(self.assert_least(on_line(spots)), 0)
                costs = square(size, lambda i, p: 0 if (i + p) % size == 1 % size else 10 ** 6)
                self.assertEqual(self.assert_least(on_line(spots, None, costs)), 0)

    def test_asked_again_after_the_told_dict_was_emptied(self):
        for size in (1, 3, 6, 8):
            job = list(line_jobs(size))[3]
            number, laying, floors = line_least(job)
            floors.clear()
            floors[()] = FAR
            self.assertEqual(self.assert_least(job), number)
            one, other = line_least(job)[2], line_least(job)[2]
            one[()] = 5
            self.assertEqual(other[()], line_least(job)[2][()])

    def test_no_line(self):
        for job in off_line_jobs():
            assert_refused(self, NoLine, line_least, job)

    def test_eight_works_in_a_few_seconds(self):
        job = on_line((5, 999, 0, 77, 500, 77, 3, 800), *mixed_job(8, 9)[::2])
        start = time.monotonic()
        number, laying, floors = line_least(job)
        are_floors(job, number, floors)
        self.assertLess(time.monotonic() - start, 5)


class AreFloors(unittest.TestCase):
    def assert_words(self, job, limits, number, floors, answers=None):
        due = said_floors(job, limits, number, floors)
        assert_told(self, due, are_floors, job, number, floors)
        if answers is not None:
            answers.add((len(job[0]), due))

    def jobs(self, size):
        return [job for at, job in enumerate(line_jobs(size)) if at % 9 == 0]

    def floors_of(self, job, limits):
        """The told floors, and floors of somebody else."""
        source = random.Random(repr(job))
        return [line_least(job)[2]] + [slack_floors(job, limits, source) for draw in range(2)]

    def test_by_hand(self):
        job = on_line((0, 5), ((0, 2), (1, 0)), ((4, 9), (7, 3)))
        floors = {(): 0, (0,): 19, (1,): 22, (0, 1): 22}
        assert_told(self, True, are_floors, job, 22, floors)
        assert_told(self, False, are_floors, job, 23, floors)
        assert_told(self, True, are_floors, job, 21, floors)
        assert_told(self, False, are_floors, job, 22, {(): 0, (0,): 20, (1,): 22, (0, 1): 22})
        assert_told(self, False, are_floors, job, 22, {(): 0, (0,): 19, (1,): 23, (0, 1): 22})
        assert_told(self, False, are_floors, job, 22, {(): 0, (0,): 18, (1,): 22, (0, 1): 22})
        assert_told(self, True, are_floors, job, 22, {(): 0, (0,): 19, (1,): 13, (0, 1): 22})
        assert_told(self, False, are_floors, job, 22, {(): 0, (0,): 19, (1,): 12, (0, 1): 22})
        assert_told(self, False, are_floors, job, 22, {(): 1, (0,): 19, (1,): 22, (0, 1): 22})
        assert_told(self, False, are_floors, job, 22, {(0,): 19, (1,): 22, (0, 1): 22})
        assert_told(self, False, are_floors, job, 22, {(): 0, (0,): 19, (1,): 22, (1, 0): 22})

    def test_the_sets_in_any_order(self):
        for size in range(1, 9):
            for job in self.jobs(size)[:3]:
                number, laying, floors = line_least(job)
                source = random.Random(size)
                for draw in range(3):
                    keys = source.sample(sorted(floors), len(floors))
                    turned = {works: floors[works] for works in keys}
                    assert_told(self, True, are_floors, job, number, turned)
                    assert_told(self, False, are_floors, job, number + 1, turned)
                    self.assertEqual(list(turned), keys)

    def test_each_number_one_more_and_one_less(self):
        answers = set()
        for size in range(1, 9):
            for job in self.jobs(size)[:6 if size < 7 else 2]:
                limits = ceilings(job)
                for floors in self.floors_of(job, limits):
                    number = floors[tuple(range(size))]
                    source = random.Random(size)
                    for works in some_of(sorted(floors), source, 25):
                        for change in (1, -1, FAR, -FAR):
                            turned = {**floors, works: floors[works] + change}
                            self.assert_words(job, limits, number, turned, answers)
        self.assertEqual(answers, set(itertools.product(range(1, 9), (True, False))))

    def test_the_number(self):
        for size in range(1, 9):
            for job in self.jobs(size)[:4]:
                limits = ceilings(job)
                for floors in self.floors_of(job, limits):
                    most = floors[tuple(range(size))]
                    for number in (most - 1, most, most + 1, 0, -FAR, FAR):
                        assert_told(self, number <= most, are_floors, job, number, floors)

    def test_a_set_left_out(self):
        for size in range(1, 9):
            job = self.jobs(size)[0]
            floors = line_least(job)[2]
            for left_out in floors:
                turned = {works: floor for works, floor in floors.items() if works != left_out}
                assert_told(self, False, are_floors, job, -FAR, turned)

    def test_one_set_more(self):
        for size in range(1, 9):
            job = self.jobs(size)[0]
            floors = line_least(job)[2]
            more = [(-1,), (size,), (FAR,), (-FAR,), (-1, 0), (0, size), (-size,), (0, 0), (0,) * 3]
            more += [(1, 0), (size - 1, 0, 1), tuple(range(size + 1)), tuple(range(-1, size))]
            more = [works for works in more if works not in floors]
            self.assertTrue(len(more) > 9)
            for works in more:
                for floor in (0, -FAR, FAR, 10 ** 6):
                    assert_told(self, False, are_floors, job, -FAR, {**floors, works: floor})
                    assert_told(self, False, are_floors, job, -FAR, {works: floor, **floors})

    def test_one_set_in_the_place_of_another(self):
        for size in range(1, 9):
            job = self.jobs(size)[1]
            floors = line_least(job)[2]
            source = random.Random(size)
            for works in some_of(sorted(floors), source, 30):
                others = [works[::-1], works + works[-1:], works[:1] + works, works + (size,), (-1,) + works, (size,)]
                others += [tuple(work - size for work in works)]
                for other in others:
                    if other not in floors:
                        turned = {other if one == works else one: floor for one, floor in floors.items()}
                        self.assertEqual(len(turned), len(floors))
                        assert_told(self, False, are_floors, job, -FAR, turned)

    def test_two_sets_exchanged(self):
        answers = set()
        for size in range(1, 7):
            for job in self.jobs(size)[:3]:
                limits = ceilings(job)
                floors = line_least(job)[2]
                number = floors[tuple(range(size))]
                source = random.Random(size)
                for one, other in some_of(itertools.combinations(sorted(floors), 2), source, 60):
                    turned = {**floors, one: floors[other], other: floors[one]}
                    self.assert_words(job, limits, number, turned, answers)
        self.assertTrue(len(answers) > 6)

    def test_the_number_of_the_empty_set(self):
        for size in range(1, 9):
            for job in self.jobs(size)[:2]:
                number, laying, floors = line_least(job)
                for least in (1, 2, FAR):
                    lifted = {works: floor + least for works, floor in floors.items()}
                    assert_told(self, False, are_floors, job, number, lifted)
                    lowered = {works: floor - least for works, floor in floors.items()}
                    assert_told(self, True, are_floors, job, number - least, lowered)
                    assert_told(self, False, are_floors, job, number, lowered)
                    assert_told(self, False, are_floors, job, number, {**floors, (): least})

    def test_no_set_at_all(self):
        for size in range(1, 9):
            for job in self.jobs(size)[:2]:
                for number in (0, 1, -1, FAR, -FAR):
                    assert_told(self, False, are_floors, job, number, {})
                    assert_told(self, False, are_floors, job, number, {(): 0})

    def test_floors_of_other_jobs(self):
        for size in range(1, 7):
            jobs = self.jobs(size)[:4]
            for job in jobs:
                limits = ceilings(job)
                for other in jobs:
                    number, laying, floors = line_least(other)
                    self.assert_words(job, limits, number, floors)
                other_size = line_least(self.jobs(size + 1)[0])[2]
                assert_told(self, False, are_floors, job, -FAR, other_size)

    def test_numbers_of_sixty_figures(self):
        for size in range(1, 9):
            job = self.jobs(size)[0]
            deep = {works: -FAR for works in sets_of(size)}
            assert_told(self, True, are_floors, job, -FAR, deep)
            assert_told(self, False, are_floors, job, 1 - FAR, deep)
            high = {works: FAR if works else 0 for works in sets_of(size)}
            assert_told(self, False, are_floors, job, -FAR, high)
            falling = {works: -FAR * len(works) for works in sets_of(size)}
            assert_told(self, True, are_floors, job, -FAR * size, falling)
            assert_told(self, False, are_floors, job, -FAR * size + 1, falling)

    def test_no_line_whatever_the_dict_is(self):
        for job in off_line_jobs():
            size = len(job[0])
            zeros = {works: 0 for works in sets_of(size)}
            for floors in ({}, zeros, {(): 1}, {(-1, FAR): 7}, {works: FAR for works in zeros}):
                for number in (0, -FAR, FAR):
                    assert_refused(self, NoLine, are_floors, job, number, floors)


if __name__ == "__main__":
    unittest.main()
