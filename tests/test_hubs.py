import itertools
import random
import time
import unittest

from helper import (
    FAR, assert_refused, assert_shown, assert_told, charged_job, empty_job, even_job, gone_through_least, greatest_job,
    mixed_job, parted_least, put, said_prices, sample_jobs, some_of, spoiled_lists, spoiled_prices, square,
)
from spotlay.errors import NoHub
from spotlay.hubs import hub, hub_least, hub_shows


def hub_flows(size, middle, tell):
    """Flows from and to one work alone."""
    return square(size, lambda i, j: tell(i, j) if i != j and middle in (i, j) else 0)


def said_hub(job):
    """The least work such that nothing is sent between two others, by the words of the document."""
    flows = job[0]
    size = len(flows)
    for h in range(size):
        others = [work for work in range(size) if work != h]
        if sum(flows[i][j] for i, j in itertools.permutations(others, 2)) == 0:
            return h
    return None


def middles(size):
    """The first work, the last one and one between."""
    return sorted({0, size // 2, size - 1})


def hub_jobs(size):
    """Jobs with a hub: ways mirrored or not, ties, flows into it and out of it, the greatest numbers."""
    greatest = greatest_job(size)
    for middle in middles(size):
        source = random.Random(10 * size + middle)
        for seed in range(3):
            flow, charge = source.choice((1, 9, 999)), source.choice((2, 99, 10 ** 6))
            flows = hub_flows(size, middle, lambda i, j: source.randint(0, flow))
            drawn, ways, costs = mixed_job(size, seed, way=source.choice((2, 99, 999)), charge=charge)
            yield flows, ways, costs
            yield flows, square(size, lambda p, q: ways[min(p, q)][max(p, q)]), costs
            yield hub_flows(size, middle, lambda i, j: source.randint(1, flow) if i == middle else 0), ways, costs
            yield hub_flows(size, middle, lambda i, j: source.randint(1, flow) if j == middle else 0), ways, costs
            yield flows, ways, square(size, lambda i, p: 0)
        yield hub_flows(size, middle, lambda i, j: 999), greatest[1], greatest[2]
        yield hub_flows(size, middle, lambda i, j: 999), mixed_job(size, 7)[1], greatest[2]
        yield hub_flows(size, middle, lambda i, j: 1), greatest[1], square(size, lambda i, p: 0)
    yield empty_job(size)
    yield charged_job(mixed_job(size, 8)[2])


def hubless_jobs():
    """Jobs in which something is sent past each work."""
    for size in range(3, 9):
        yield greatest_job(size)
        yield even_job(size, 1, 0, 0)
        flows, ways, costs = mixed_job(size, 9)
        # From each work to the next one, in a ring of three.
        ring = square(size, lambda i, j: 1 if (i, j) in ((0, 1), (1, 2), (2, 0)) else 0)
        yield ring, ways, costs
        if size > 3:
            yield square(size, lambda i, j: 1 if (i, j) in ((0, 1), (size - 1, size - 2)) else 0), ways, costs


class Hub(unittest.TestCase):
    def assert_hub(self, job, due):
        ahead = repr(job)
        for again in range(2):
            told = hub(job)
            if due is None:
                self.assertIsNone(told)
            else:
                self.assertIs(type(told), int)
                self.assertEqual(told, due)
            self.assertEqual(repr(job), ahead)

    def test_by_hand(self):
        zeros = square(3, lambda i, j: 0)
        self.assert_hub((((0, 1, 0), (0, 0, 0), (0, 0, 0)), zeros, zeros), 0)
        self.assert_hub((((0, 0, 0), (0, 0, 1), (0, 0, 0)), zeros, zeros), 1)
        self.assert_hub((((0, 0, 0), (0, 0, 1), (2, 0, 0)), zeros, zeros), 2)
        self.assert_hub((((0, 1, 0), (0, 0, 1), (1, 0, 0)), zeros, zeros), None)

    def test_of_one_and_two_works(self):
        for size in (1, 2):
            for job in (empty_job(size), greatest_job(size), mixed_job(size, 1)):
                self.assert_hub(job, 0)

    def test_without_flows(self):
        for size in range(1, 9):
            self.assert_hub(empty_job(size), 0)
            self.assert_hub(even_job(size, 0, 999, 10 ** 6), 0)

    def test_into_it_out_of_it_and_both(self):
        for size in range(3, 9):
            for middle in range(size):
                ways, costs = mixed_job(size, 2)[1:]
                for flow in (1, 999):
                    into = hub_flows(size, middle, lambda i, j: flow if j == middle else 0)
                    out = hub_flows(size, middle, lambda i, j: flow if i == middle else 0)
                    both = hub_flows(size, middle, lambda i, j: flow)
                    for flows in (into, out, both):
                        self.assert_hub((flows, ways, costs), middle)

    def test_one_flow_alone(self):
        for size in range(2, 9):
            zeros = square(size, lambda i, j: 0)
            for i, j in itertools.permutations(range(size), 2):
                due = min(i, j) if size > 2 else 0
                self.assert_hub((put(zeros, (i, j), 1), zeros, zeros), due)

    def test_two_flows(self):
        for size in range(3, 9):
            zeros = square(size, lambda i, j: 0)
            for one, other in itertools.combinations(itertools.permutations(range(size), 2), 2):
                flows = put(put(zeros, one, 1), other, 999)
                common = set(one) & set(other)
                due = min(common) if common else None
                self.assert_hub((flows, zeros, zeros), said_hub((flows, zeros, zeros)))
                if size > 3 or due is not None:
                    self.assertEqual(said_hub((flows, zeros, zeros)), due)

    def test_one_flow_more_between_two_others(self):
        for size in range(3, 9):
            for middle in range(size):
                flows = hub_flows(size, middle, lambda i, j: 5)
                others = [work for work in range(size) if work != middle]
                for i, j in itertools.permutations(others, 2):
                    for flow in (1, 999):
                        job = (put(flows, (i, j), flow), flows, flows)
                        self.assert_hub(job, said_hub(job))
                        if size > 3:
                            self.assertIsNone(said_hub(job))

    def test_all_flows_of_three_works_of_few_numbers(self):
        zeros = square(3, lambda i, j: 0)
        for a, b, c, d, e, f in itertools.product((0, 1), repeat=6):
            job = (((0, a, b), (c, 0, d), (e, f, 0)), zeros, zeros)
            self.assert_hub(job, said_hub(job))

    def test_drawn_jobs(self):
        for size in range(1, 9):
            for job in hub_jobs(size):
                self.assertIsNotNone(said_hub(job))
                self.assert_hub(job, said_hub(job))
        for job in list(hubless_jobs()):
            self.assert_hub(job, None)
        for job in sample_jobs():
            self.assert_hub(job, said_hub(job))

    def test_ways_and_costs_do_not_count(self):
        for size in range(1, 9):
            flows = hub_flows(size, size - 1, lambda i, j: 3)
            for other in (empty_job(size), greatest_job(size), mixed_job(size, 3)):
                self.assert_hub((flows,) + other[1:], size - 1 if size > 2 else 0)


def said_hub_table(job, q):
    """The table of the other works and the other places, by the words of the document."""
    flows, ways, costs = job
    h = said_hub(job)
    rows = []
    for i in range(len(flows)):
        row = []
        for p in range(len(flows)):
            if p != q:
                row.append(costs[i][p] + flows[i][h] * ways[p][q] + flows[h][i] * ways[q][p])
        if i != h:
            rows.append(tuple(row))
    return tuple(rows)


def said_shown(job, papers):
    """The greatest number that the papers show, by the words of the document; None where they show none."""
    size = len(job[0])
    if len(papers) != size:
        return None
    numbers = []
    for q, (left, right) in enumerate(papers):
        if not said_prices(said_hub_table(job, q), left, right):
            return None
        numbers.append(job[2][said_hub(job)][q] + sum(left) + sum(right))
    return min(numbers)


class HubLeast(unittest.TestCase):
    def assert_least(self, job):
        size = len(job[0])
        number, laying, papers = parted_least(self, hub_least, job)
        self.assertIs(type(papers), list)
        self.assertEqual(len(papers), size)
        for paper in papers:
            self.assertIs(type(paper), tuple)
            self.assertEqual(len(paper), 2)
            for prices in paper:
                self.assertIs(type(prices), list)
                self.assertEqual([type(price) for price in prices], [int] * (size - 1))
        shown = said_shown(job, papers)
        self.assertIsNotNone(shown)
        self.assertTrue(shown >= number)
        assert_told(self, True, hub_shows, job, number, papers)
        return number

    def test_by_hand(self):
        # Work 1 sends 3 to work 0 and gets 4 from work 2: best on the middle place.
        ways = ((0, 1, 9), (1, 0, 2), (9, 2, 0))
        job = (((0, 0, 0), (3, 0, 0), (0, 4, 0)), ways, square(3, lambda i, p: 0))
        self.assertEqual(self.assert_least(job), 4 * 1 + 3 * 2)
        self.assertEqual(hub_least(job)[1], (2, 1, 0))
        job = (job[0], ways, ((0, 0, 0), (0, 90, 0), (0, 0, 0)))
        self.assertEqual(self.assert_least(job), 4 * 1 + 3 * 9)

    def test_of_one_work(self):
        for charge in (0, 7, 10 ** 6):
            job = (((0,),), ((0,),), ((charge,),))
            self.assertEqual(hub_least(job), (charge, (0,), [([], [])]))
            self.assert_least(job)

    def test_against_all_layings(self):
        for size in range(1, 7):
            for job in hub_jobs(size):
                self.assertEqual(self.assert_least(job), gone_through_least(job))

    def test_all_jobs_of_two_works_of_few_numbers(self):
        numbers = [(0, number) for number in (1, 2, 3, 4, 1, 5, 7)]
        for flow, back, way, again, a, b, c in itertools.product(*numbers):
            job = (((0, flow), (back, 0)), ((0, way), (again, 0)), ((a, b), (c, 0)))
            self.assertEqual(self.assert_least(job), gone_through_least(job))

    def test_seven_and_eight_works(self):
        for size in (7, 8):
            for job in hub_jobs(size):
                self.assert_least(job)

    def test_the_greatest_numbers(self):
        for size in range(1, 9):
            ways, costs = greatest_job(size)[1:]
            for middle in middles(size):
                flows = hub_flows(size, middle, lambda i, j: 999)
                due = size * 10 ** 6 + 2 * (size - 1) * 999 * 999
                self.assertEqual(self.assert_least((flows, ways, costs)), due)

    def test_asked_again_after_told_lists_were_changed(self):
        for size in (1, 2, 5, 8):
            for job in list(hub_jobs(size))[:4]:
                number, laying, papers = hub_least(job)
                for left, right in papers:
                    left.append(FAR)
                    right.clear()
                papers.pop()
                self.assertEqual(self.assert_least(job), number)

    def test_what_is_put_to_one_list_stands_in_no_other_one(self):
        for size in range(1, 9):
            for job in (empty_job(size), next(hub_jobs(size))):
                told = [hub_least(job)[2], hub_least(job)[2]]
                lists = [prices for papers in told for paper in papers for prices in paper]
                for at, one in enumerate(lists):
                    one.append(FAR + at)
                for at, one in enumerate(lists):
                    self.assertEqual(one[size - 1:], [FAR + at])

    def test_no_hub(self):
        for job in hubless_jobs():
            assert_refused(self, NoHub, hub_least, job)

    def test_eight_works_in_a_few_seconds(self):
        jobs = list(hub_jobs(8))
        start = time.monotonic()
        for job in jobs[:4]:
            number, laying, papers = hub_least(job)
            hub_shows(job, number, papers)
        self.assertLess(time.monotonic() - start, 5)


def low_papers(job, source):
    """Prices that are seldom the best ones, for each place of the hub."""
    papers = []
    for q in range(len(job[0])):
        table = said_hub_table(job, q)
        left = [source.randint(-9, 9) for row in table]
        right = [min(table[i][p] - left[i] for i in range(len(table))) for p in range(len(table))]
        papers.append((left, right) if source.random() < 0.8 else (left, [price - 1 for price in right]))
    return papers


def spoiled_papers(papers, source):
    """Papers near to these ones."""
    yield from spoiled_lists(papers, [papers[0], ([], []), ([0], [0])])
    for at, (left, right) in enumerate(papers):
        turned = [(right, left), ([], []), (left, []), ([], right), (left + [0], right + [0])]
        turned += [(prices, right) for prices in some_of(spoiled_prices(left), source, 12)]
        turned += [(left, prices) for prices in some_of(spoiled_prices(right), source, 12)]
        for paper in turned:
            yield papers[:at] + [paper] + papers[at + 1:]


class HubShows(unittest.TestCase):
    def assert_words(self, job, papers, answers=None):
        """Told as the words say, of the greatest number that the papers show, and of others."""
        assert_shown(self, hub_shows, job, said_shown(job, papers), papers, answers)

    def test_by_hand(self):
        job = (((0, 2), (3, 0)), ((0, 5), (7, 0)), ((1, 10), (100, 1000)))
        # On place 0 the hub costs 1, the other work, on place 1, 1000 + 3 * 7 + 2 * 5;
        # on place 1 it costs 10, the other work, on place 0, 100 + 3 * 5 + 2 * 7.
        assert_told(self, True, hub_shows, job, 139, [([1031], [0]), ([129], [0])])
        assert_told(self, False, hub_shows, job, 140, [([1031], [0]), ([129], [0])])
        assert_told(self, True, hub_shows, job, 139, [([138], [0]), ([100], [29])])
        assert_told(self, False, hub_shows, job, 139, [([137], [0]), ([100], [29])])
        assert_told(self, True, hub_shows, job, 138, [([137], [0]), ([100], [29])])
        assert_told(self, False, hub_shows, job, 139, [([1032], [0]), ([129], [0])])
        assert_told(self, False, hub_shows, job, 139, [([129], [0]), ([1031], [0])])
        assert_told(self, False, hub_shows, job, 139, [([1031], [0])])

    def test_told_papers(self):
        for size in range(1, 9):
            for job in hub_jobs(size):
                number, laying, papers = hub_least(job)
                assert_told(self, True, hub_shows, job, number, papers)
                assert_told(self, False, hub_shows, job, number + 1, papers)
                assert_told(self, True, hub_shows, job, number - 1, papers)
                assert_told(self, True, hub_shows, job, -FAR, papers)
                assert_told(self, False, hub_shows, job, FAR, papers)

    def test_spoiled_papers(self):
        answers = set()
        for size in range(1, 9):
            source = random.Random(size)
            for job in list(hub_jobs(size))[::5 if size < 6 else 9]:
                for papers in (hub_least(job)[2], low_papers(job, source)):
                    for turned in some_of(spoiled_papers(papers, source), source, 60 if size < 6 else 25):
                        self.assert_words(job, turned, answers)
        self.assertEqual(answers, set(itertools.product(range(1, 9), (True, False))))

    def test_each_price_one_more_or_less(self):
        for size in (2, 3, 5, 8):
            for job in list(hub_jobs(size))[::6 if size < 8 else 20]:
                number, laying, papers = hub_least(job)
                for q, side, at in itertools.product(range(size), (0, 1), range(size - 1)):
                    for change in (1, -1):
                        turned = [tuple(list(prices) for prices in paper) for paper in papers]
                        turned[q][side][at] += change
                        most = said_shown(job, turned)
                        due = most is not None and number <= most
                        assert_told(self, due, hub_shows, job, number, turned)

    def test_no_pairs_at_all(self):
        for size in range(1, 9):
            for job in list(hub_jobs(size))[:2]:
                for number in (0, 1, -1, FAR, -FAR):
                    assert_told(self, False, hub_shows, job, number, [])
                    assert_told(self, False, hub_shows, job, number, [([], [])] * (size + 1))
                    if size > 1:
                        assert_told(self, False, hub_shows, job, number, [([], [])] * size)

    def test_of_one_work(self):
        job = (((0,),), ((0,),), ((7,),))
        for papers in ([([], [])], [([0], [])], [([], [0])], [([0], [0])], [([], []), ([], [])], []):
            self.assert_words(job, papers)
        assert_told(self, True, hub_shows, job, 7, [([], [])])
        assert_told(self, False, hub_shows, job, 8, [([], [])])

    def test_the_hub_is_the_least_one(self):
        # Either work of the one flow is a hub; the prices of the other one's tables do not fit.
        costs = ((0, 50, 90), (70, 0, 20), (0, 60, 0))
        job = (((0, 0, 0), (0, 0, 5), (0, 0, 0)), ((0, 1, 2), (3, 0, 4), (5, 6, 0)), costs)
        self.assertEqual(said_hub(job), 1)
        for papers in (hub_least(job)[2], [([0, 0], [0, 0])] * 3):
            self.assert_words(job, papers)
        # Prices of all that may stand in work 2's row, too great for work 0's.
        self.assert_words(job, [([60, 0], [0, 0])] * 3)

    def test_papers_of_other_jobs(self):
        for size in range(1, 7):
            jobs = list(hub_jobs(size))[::7]
            for job, other in itertools.product(jobs, repeat=2):
                self.assert_words(job, hub_least(other)[2])
            assert_told(self, False, hub_shows, jobs[0], -FAR, hub_least(next(hub_jobs(size + 1)))[2])

    def test_numbers_of_sixty_figures(self):
        for size in range(2, 9):
            job = next(hub_jobs(size))
            row = size - 1
            for low, high in ((-FAR, 0), (-FAR, FAR), (FAR, -FAR), (FAR, FAR), (-FAR, -FAR), (FAR, 1 - FAR)):
                self.assert_words(job, [([low] * row, [high] * row)] * size)

    def test_no_hub_whatever_the_list_is(self):
        for job in hubless_jobs():
            size = len(job[0])
            row = [0] * (size - 1)
            for papers in ([], [([], [])], [(row, row)] * size, [([FAR], [-FAR])] * size, [(row, [1])] * (size + 1)):
                for number in (0, -FAR, FAR):
                    assert_refused(self, NoHub, hub_shows, job, number, papers)


if __name__ == "__main__":
    unittest.main()
