"""What the document promises over the whole program: the modules, asked of the same job, agree with one another."""

import random
import unittest
from fractions import Fraction

from helper import (
    all_free, assert_refused, even_job, greatest_job, mirrored_job, mixed_job, put, sample_jobs, some_layings,
    some_parts, square,
)
from spotlay.alike import alike_places, alike_works, first_alike, how_many_unlike
from spotlay.bounds import bound, bound_table
from spotlay.desk import Desk
from spotlay.errors import NoHub, NoLine, TooMany
from spotlay.exchanges import exchanged, is_settling, is_still, settled
from spotlay.hubs import hub, hub_least, hub_shows
from spotlay.jobs import cost, fixed, is_job, is_laying
from spotlay.keeper import Keeper
from spotlay.least import least, shows
from spotlay.lines import are_floors, line, line_least
from spotlay.means import by_means, mean
from spotlay.pairings import are_prices, pairing
from spotlay.texts import read_job, show_job


def hub_and_line_jobs(size):
    """Jobs whose places lie on a line, that have a hub, and both."""
    source = random.Random(size)
    for draw in range(3):
        flows, ways, costs = mixed_job(size, draw, flow=9, way=99, charge=source.choice((0, 99, 10 ** 6)))
        spots = [source.randint(0, 999) for place in range(size)]
        on_line = square(size, lambda p, q: abs(spots[p] - spots[q]))
        middle = source.randrange(size)
        from_hub = square(size, lambda i, j: flows[i][j] if middle in (i, j) else 0)
        yield flows, on_line, costs
        yield from_hub, ways, costs
        yield from_hub, on_line, costs


def alike_jobs(size):
    yield even_job(size, 3, 4, 5)
    # Those of one half are alike.
    half = size // 2
    rows = square(size, lambda i, j: 0 if i == j else 1 + (i < half) + 3 * (j < half))
    yield rows, rows, square(size, lambda i, p: (i < half) + 2 * (p < half))
    yield rows, mixed_job(size, 3)[1], square(size, lambda i, p: p)


def jobs_of(size):
    jobs = [job for job in sample_jobs() if len(job[0]) == size]
    jobs += [mirrored_job(size, 180, flow=4, way=4, charge=20), mixed_job(size, 181, flow=1, way=1, charge=1)]
    return jobs + list(hub_and_line_jobs(size)) + list(alike_jobs(size))


def told_desk(job):
    """A desk at which the job stands."""
    desk = Desk()
    head, *rows = show_job(job).split("\n")
    desk.say(f"job {len(job[0])}")
    for row in rows:
        desk.say(row)
    return desk


class Whole(unittest.TestCase):
    def setUp(self):
        self.jobs = [job for size in range(1, 9) for job in jobs_of(size)]

    def lower_ends(self, job):
        """Numbers that are the least cost, as each module that can tells it."""
        told = []
        if len(job[0]) <= 6:
            told.append(least(job)[:2])
        if line(job) is not None:
            told.append(line_least(job)[:2])
        if hub(job) is not None:
            told.append(hub_least(job)[:2])
        return told

    def layings_of(self, job):
        """Layings that the modules tell, and others."""
        layings = some_layings(len(job[0]), 182, many=2)[:6]
        layings += [settled(job, laying)[1] for laying in layings[:2]]
        layings += [by_means(job)[0]] + [laying for number, laying in self.lower_ends(job)]
        return layings

    def test_the_least_is_one_number_and_no_laying_costs_less(self):
        several = 0
        for job in self.jobs:
            told = self.lower_ends(job)
            several += len(told) > 1
            self.assertTrue(len({number for number, laying in told}) <= 1)
            for number, laying in told:
                self.assertIs(is_laying(job, laying), True)
                self.assertEqual(cost(job, laying), number)
                # No exchange betters the least.
                self.assertIs(is_still(job, laying), True)
                for other in self.layings_of(job):
                    self.assertTrue(number <= cost(job, other))
        self.assertTrue(several > 30)

    def test_each_paper_shows_the_least_and_no_more(self):
        for job in self.jobs:
            papers = []
            if len(job[0]) <= 6:
                papers.append((shows, least(job)))
            if line(job) is not None:
                papers.append((are_floors, line_least(job)))
            if hub(job) is not None:
                papers.append((hub_shows, hub_least(job)))
            for looked_at, (number, laying, paper) in papers:
                self.assertIs(looked_at(job, number, paper), True)
                self.assertIs(looked_at(job, number + 1, paper), False)

    def test_refused_where_it_cannot_be_told(self):
        for job in self.jobs:
            if len(job[0]) > 6:
                assert_refused(self, TooMany, least, job)
            if line(job) is None:
                assert_refused(self, NoLine, line_least, job)
            if hub(job) is None:
                assert_refused(self, NoHub, hub_least, job)

    def test_bound_least_and_mean_stand_in_order(self):
        for job in self.jobs:
            for part in some_parts(len(job[0]), 183, many=1):
                low, middle = bound(job, part), Fraction(*mean(job, part))
                self.assertTrue(fixed(job, part) <= low <= middle)
                total, columns, left, right = pairing(bound_table(job, part))
                self.assertEqual(fixed(job, part) + total, low)
                self.assertIs(are_prices(bound_table(job, part), total, left, right), True)
                if None not in part:
                    self.assertEqual((low, middle), (cost(job, part), cost(job, part)))
            for number, laying in self.lower_ends(job):
                self.assertTrue(bound(job, all_free(job)) <= number <= Fraction(*mean(job, all_free(job))))

    def test_no_laying_that_completes_a_part_costs_less_than_its_bound(self):
        for job in self.jobs:
            for laying in self.layings_of(job):
                part = laying
                for work in range(len(laying)):
                    part = put(part, (work,), None)
                    self.assertTrue(bound(job, part) <= cost(job, laying))

    def test_layings_by_means_and_settled_ones(self):
        for job in self.jobs:
            laying, means = by_means(job)
            self.assertEqual(means[-1], (cost(job, laying), 1))
            self.assertEqual(means[0], mean(job, all_free(job)))
            self.assertTrue(cost(job, laying) <= Fraction(*means[0]))
            steps, end = settled(job, laying)
            self.assertIs(is_settling(job, laying, steps), True)
            self.assertTrue(cost(job, end) <= cost(job, laying))
            self.assertIs(is_still(job, end), True)

    def test_alike_ones_change_places_at_no_cost(self):
        for job in self.jobs:
            for laying in self.layings_of(job):
                self.assertEqual(cost(job, first_alike(job, laying)), cost(job, laying))
                for works in alike_works(job):
                    turned = exchanged(laying, works[0], works[-1])
                    self.assertEqual(cost(job, turned), cost(job, laying))
                    self.assertEqual(first_alike(job, turned), first_alike(job, laying))
                for places in alike_places(job):
                    turned = exchanged(laying, laying.index(places[0]), laying.index(places[-1]))
                    self.assertEqual(cost(job, turned), cost(job, laying))
                    self.assertEqual(first_alike(job, turned), first_alike(job, laying))
            if how_many_unlike(job) == 1:
                self.assertEqual(mean(job, all_free(job)), (cost(job, tuple(range(len(job[0])))), 1))

    def test_a_keeper_agrees(self):
        for job in self.jobs:
            for laying in some_layings(len(job[0]), 184, many=1)[-2:]:
                keeper = Keeper(job, laying)
                self.assertEqual(keeper.cost(), cost(job, laying))
                deeds = 0
                step = keeper.better()
                while step is not None:
                    deeds += 1
                    self.assertEqual(keeper.cost(), cost(job, keeper.laying()))
                    step = keeper.better()
                self.assertIs(is_still(job, keeper.laying()), True)
                for deed in range(deeds):
                    keeper.back()
                self.assertEqual((keeper.job(), keeper.laying()), (job, laying))

    def test_a_kept_laying_costs_what_its_job_says(self):
        source = random.Random(185)
        for job in self.jobs:
            size = len(job[0])
            keeper = Keeper(job, tuple(range(size)))
            seen = []
            for draw in range(12):
                seen.append((keeper.job(), keeper.laying(), keeper.cost()))
                one, other = source.randrange(size), source.randrange(size)
                if one == other:
                    keeper.charge(one, source.randrange(size), source.randint(0, 10 ** 6))
                else:
                    source.choice((keeper.flow, keeper.way))(one, other, source.randint(0, 999))
                self.assertIs(is_job(keeper.job()), True)
                self.assertEqual(keeper.cost(), cost(keeper.job(), keeper.laying()))
            while seen:
                keeper.back()
                self.assertEqual((keeper.job(), keeper.laying(), keeper.cost()), seen.pop())

    def test_a_desk_agrees(self):
        for job in self.jobs:
            desk = told_desk(job)
            laying = tuple(range(len(job[0])))
            self.assertEqual(read_job(desk.say("show").replace(",", "\n")), job)
            self.assertEqual(desk.say("total"), str(cost(job, laying)))
            self.assertEqual(desk.say("bound"), str(bound(job, all_free(job))))
            self.assertEqual(Fraction(desk.say("mean")), Fraction(*mean(job, all_free(job))))
            self.assertEqual(desk.say("line") == "none", line(job) is None)
            self.assertEqual(desk.say("hub") == "none", hub(job) is None)
            if len(job[0]) <= 6:
                self.assertEqual(desk.say("least"), str(least(job)[0]))
            keeper = Keeper(job, laying)
            step = keeper.better()
            while step is not None:
                self.assertEqual(desk.say("better"), " ".join(map(str, step)))
                self.assertEqual(desk.say("total"), str(keeper.cost()))
                self.assertEqual(desk.say("laying"), " ".join(map(str, keeper.laying())))
                step = keeper.better()
            self.assertEqual(desk.say("better"), "still")

    def test_the_greatest_job(self):
        job = greatest_job(8)
        number = cost(job, tuple(range(8)))
        self.assertEqual(bound(job, all_free(job)), number)
        self.assertEqual(by_means(job)[1], [(number, 1)] * 9)
        self.assertEqual(how_many_unlike(job), 1)
        self.assertEqual(settled(job, tuple(range(8))), ([], tuple(range(8))))


if __name__ == "__main__":
    unittest.main()
