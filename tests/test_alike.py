import itertools
import math
import random
import time
import unittest

from helper import (
    assert_number, charged_job, empty_job, even_job, greatest_job, mixed_job, put, sample_jobs, some_layings, some_of,
    square, written_cost,
)
from spotlay.alike import alike_places, alike_works, first_alike, how_many_unlike
from spotlay.jobs import cost


def job_of_sets(works, places, seed, flow=999, way=999, charge=10 ** 6):
    """A job in which those with the same sign are alike, and others are seldom so."""
    source = random.Random(seed)
    drawn = {}

    def told(*key, most):
        if key not in drawn:
            drawn[key] = source.randint(0, most)
        return drawn[key]

    size = len(works)
    return (
        square(size, lambda i, j: 0 if i == j else told("flow", works[i], works[j], most=flow)),
        square(size, lambda p, q: 0 if p == q else told("way", places[p], places[q], most=way)),
        square(size, lambda i, p: told("cost", works[i], places[p], most=charge)),
    )


def sets_by_signs(signs):
    """The sets of those with the same sign, sorted."""
    return sorted(tuple(at for at, sign in enumerate(signs) if sign == one) for one in set(signs))


def turned(at, one, other):
    return {one: other, other: one}.get(at, at)


def said_works_alike(job, one, other):
    """Whether the job stays as it is when two works are exchanged, by the words of the document."""
    flows, ways, costs = job
    size = len(flows)
    new_flows = square(size, lambda i, j: flows[turned(i, one, other)][turned(j, one, other)])
    new_costs = square(size, lambda i, p: costs[turned(i, one, other)][p])
    return (new_flows, ways, new_costs) == job


def said_places_alike(job, one, other):
    flows, ways, costs = job
    size = len(flows)
    new_ways = square(size, lambda p, q: ways[turned(p, one, other)][turned(q, one, other)])
    new_costs = square(size, lambda i, p: costs[i][turned(p, one, other)])
    return (flows, new_ways, new_costs) == job


def alike_pairs(job, said):
    return [pair for pair in itertools.combinations(range(len(job[0])), 2) if said(job, *pair)]


def alike_jobs(size):
    """Jobs with alike works, alike places, both and none."""
    source = random.Random(size)
    jobs = [empty_job(size), greatest_job(size), mixed_job(size, size), mixed_job(size, size, flow=1, way=1, charge=0)]
    jobs += [charged_job(square(size, lambda i, p: i)), charged_job(square(size, lambda i, p: p))]
    jobs += [even_job(size, 999, 5, 0)]
    for seed, letters in enumerate(("ab", "ab", "abc", "abc", "abcd", "abcdefgh")):
        works = [source.choice(letters) for work in range(size)]
        places = [source.choice(letters) for place in range(size)]
        apart = list(range(size))
        jobs.append(job_of_sets(works, places, seed))
        jobs.append(job_of_sets(works, apart, seed))
        jobs.append(job_of_sets(apart, places, seed))
        jobs.append(job_of_sets(works, places, seed, flow=1, way=1, charge=1))
    return jobs


class AlikeOnes(unittest.TestCase):
    def assert_sets(self, function, job, due):
        ahead = repr(job)
        for again in range(2):
            told = function(job)
            self.assertEqual(repr(job), ahead)
            self.assertIs(type(told), list)
            for members in told:
                self.assertIs(type(members), tuple)
                self.assertEqual([type(member) for member in members], [int] * len(members))
                self.assertEqual(list(members), sorted(members))
            self.assertEqual(told, due, ahead)

    def assert_words(self, function, said, job):
        """Each in just one set, two in one set just where they are alike."""
        size = len(job[0])
        told = function(job)
        self.assertEqual(sorted(member for members in told for member in members), list(range(size)))
        self.assertEqual(told, sorted(told))
        together = [pair for members in told for pair in itertools.combinations(members, 2)]
        self.assertEqual(sorted(together), alike_pairs(job, said))
        self.assert_sets(function, job, told)

    def test_by_hand(self):
        flows = ((0, 1, 2), (1, 0, 2), (3, 3, 0))
        ways = ((0, 4, 5), (6, 0, 7), (5, 4, 0))
        self.assert_sets(alike_works, (flows, ways, ((1, 2, 1), (1, 2, 1), (9, 9, 9))), [(0, 1), (2,)])
        self.assert_sets(alike_works, (flows, ways, ((1, 2, 1), (1, 2, 2), (9, 9, 9))), [(0,), (1,), (2,)])
        ways = ((0, 4, 5), (6, 0, 6), (5, 4, 0))
        self.assert_sets(alike_places, (flows, ways, ((1, 2, 1), (3, 4, 3), (5, 5, 5))), [(0, 2), (1,)])
        self.assert_sets(alike_places, (flows, ways, ((1, 2, 1), (3, 4, 4), (5, 5, 5))), [(0,), (1,), (2,)])

    def test_none_alike_and_all_alike(self):
        for size in range(1, 9):
            alone = [(at,) for at in range(size)]
            together = [tuple(range(size))]
            for job in (empty_job(size), greatest_job(size), even_job(size, 3, 4, 5)):
                self.assert_sets(alike_works, job, together)
                self.assert_sets(alike_places, job, together)
            self.assert_sets(alike_works, mixed_job(size, 50), alone)
            self.assert_sets(alike_places, mixed_job(size, 50), alone)
            self.assert_sets(alike_works, charged_job(square(size, lambda i, p: i)), alone)
            self.assert_sets(alike_places, charged_job(square(size, lambda i, p: i)), together)
            self.assert_sets(alike_works, charged_job(square(size, lambda i, p: p)), together)
            self.assert_sets(alike_places, charged_job(square(size, lambda i, p: p)), alone)

    def test_several_sets(self):
        for works, places in (
            ("abab", "aabb"), ("abba", "abcd"), ("abcde", "aabaa"), ("abcabc", "cbacba"), ("aabbccd", "abababa"),
            ("abcdabcd", "abcddcba"), ("abbbbbbb", "aaaaaaab"), ("aaaabbbb", "abababab"), ("abcdefga", "abcdefgh"),
        ):
            job = job_of_sets(works, places, 51)
            self.assert_sets(alike_works, job, sets_by_signs(works))
            self.assert_sets(alike_places, job, sets_by_signs(places))

    def test_drawn_jobs(self):
        for size in range(1, 9):
            for job in alike_jobs(size):
                self.assert_words(alike_works, said_works_alike, job)
                self.assert_words(alike_places, said_places_alike, job)
        for job in sample_jobs():
            self.assert_words(alike_works, said_works_alike, job)
            self.assert_words(alike_places, said_places_alike, job)

    def test_all_flows_and_ways_of_three_of_few_numbers(self):
        for a, b, c, d, e, f in itertools.product((0, 1), repeat=6):
            rows = ((0, a, b), (c, 0, d), (e, f, 0))
            for costs in (square(3, lambda i, p: 0), ((1, 1, 0), (1, 1, 0), (0, 0, 1))):
                self.assert_words(alike_works, said_works_alike, (rows, rows, costs))
                self.assert_words(alike_places, said_places_alike, (rows, rows, costs))

    def test_alike_but_for_one_number(self):
        for size in range(2, 9):
            job = even_job(size, 5, 5, 5)
            for i, j in itertools.permutations(range(size), 2):
                # Any one number changed leaves no pair alike that it tells apart.
                for square_at in (0, 1, 2):
                    changed = put(job, (square_at, i, j), 6)
                    self.assert_words(alike_works, said_works_alike, changed)
                    self.assert_words(alike_places, said_places_alike, changed)
            for i, p in itertools.product(range(size), repeat=2):
                others = [tuple(work for work in range(size) if work != i)]
                self.assert_sets(alike_works, put(job, (2, i, p), 6), sorted(others + [(i,)]))
                others = [tuple(place for place in range(size) if place != p)]
                self.assert_sets(alike_places, put(job, (2, i, p), 6), sorted(others + [(p,)]))

    def test_a_flow_back_tells_two_apart(self):
        for size in range(2, 9):
            for flow, back in ((0, 1), (999, 0), (7, 8)):
                for one, other in itertools.permutations(range(size), 2):
                    rows = put(put(square(size, lambda i, j: 0), (one, other), flow), (other, one), back)
                    rest = tuple(at for at in range(size) if at not in (one, other))
                    due = sorted([(one,), (other,)] + ([rest] if rest else []))
                    zeros = square(size, lambda i, p: 0)
                    self.assert_sets(alike_works, (rows, zeros, zeros), due)
                    self.assert_sets(alike_places, (zeros, rows, zeros), due)

    def test_flows_and_ways_that_are_not_mirrored(self):
        for size in range(3, 9):
            # To one and fro the flows differ, but for all others alike.
            rows = square(size, lambda i, j: 0 if i == j else 9 if i == 0 else 4 if j == 0 else 2)
            due = [(0,), tuple(range(1, size))]
            zeros = square(size, lambda i, p: 0)
            self.assert_sets(alike_works, (rows, zeros, zeros), due)
            self.assert_sets(alike_places, (zeros, rows, zeros), due)
            self.assert_sets(alike_works, (zeros, rows, zeros), [tuple(range(size))])
            self.assert_sets(alike_places, (rows, zeros, zeros), [tuple(range(size))])

    def test_asked_again_after_a_told_list_was_changed(self):
        for size in (1, 4, 8):
            for job in alike_jobs(size)[:9]:
                for function in (alike_works, alike_places):
                    told = function(job)
                    kept = list(told)
                    told.append((0,))
                    told.reverse()
                    self.assert_sets(function, job, kept)
                    told.clear()
                    self.assert_sets(function, job, kept)


def all_alike(job, laying):
    """All layings that come of one by exchanging alike works, and alike places, any number of times."""
    works = alike_pairs(job, said_works_alike)
    places = alike_pairs(job, said_places_alike)
    found = {laying}
    ahead = [laying]
    while ahead:
        one = ahead.pop()
        steps = [tuple(one[turned(work, *pair)] for work in range(len(one))) for pair in works]
        steps += [tuple(turned(place, *pair) for place in one) for pair in places]
        for step in steps:
            if step not in found:
                found.add(step)
                ahead.append(step)
    return found


def classes(job):
    """All layings of a job, those that are alike together."""
    left = set(itertools.permutations(range(len(job[0]))))
    while left:
        alike = all_alike(job, min(left))
        left -= alike
        yield alike


class FirstAlike(unittest.TestCase):
    def assert_first(self, job, laying, due):
        ahead = repr((job, laying))
        for again in range(2):
            told = first_alike(job, laying)
            self.assertIs(type(told), tuple)
            self.assertEqual([type(place) for place in told], [int] * len(laying))
            self.assertEqual(told, due, ahead)
            self.assertEqual(repr((job, laying)), ahead)

    def test_by_hand(self):
        works_alike = job_of_sets("aab", "abc", 60)
        self.assert_first(works_alike, (2, 1, 0), (1, 2, 0))
        self.assert_first(works_alike, (0, 2, 1), (0, 2, 1))
        places_alike = job_of_sets("abc", "aba", 60)
        self.assert_first(places_alike, (2, 1, 0), (0, 1, 2))
        self.assert_first(places_alike, (1, 2, 0), (1, 0, 2))
        both = job_of_sets("aabb", "aabb", 60)
        self.assert_first(both, (3, 1, 0, 2), (0, 2, 1, 3))
        self.assert_first(both, (3, 2, 1, 0), (2, 3, 0, 1))

    def test_against_all_alike_ones(self):
        for size in range(1, 6):
            for job in alike_jobs(size):
                for alike in classes(job):
                    for laying in alike:
                        self.assert_first(job, laying, min(alike))
                        self.assertEqual(cost(job, laying), written_cost(job, min(alike)))

    def test_great_jobs(self):
        for size in (6, 7, 8):
            source = random.Random(size)
            for job in alike_jobs(size)[7::1 if size < 8 else 3]:
                alike = all_alike(job, some_layings(size, size, many=1)[-1])
                for one in some_of(sorted(alike), source, 5):
                    self.assert_first(job, one, min(alike))
                    self.assertEqual(cost(job, one), cost(job, min(alike)))

    def test_all_alike_and_none_alike(self):
        for size in range(1, 9):
            for laying in some_layings(size, 61):
                self.assert_first(greatest_job(size), laying, tuple(range(size)))
                self.assert_first(empty_job(size), laying, tuple(range(size)))
                self.assert_first(mixed_job(size, 62), laying, laying)
                # Where all works are alike, or all places are, so are all layings.
                self.assert_first(charged_job(square(size, lambda i, p: i)), laying, tuple(range(size)))
                self.assert_first(charged_job(square(size, lambda i, p: p)), laying, tuple(range(size)))

    def test_a_first_one_stays(self):
        for size in range(1, 9):
            for job in alike_jobs(size):
                for laying in some_layings(size, 63, many=2):
                    first = first_alike(job, laying)
                    self.assertTrue(first <= laying)
                    self.assert_first(job, first, first)
                    self.assertEqual(cost(job, first), cost(job, laying))


def counted_by_sets(job):
    """How many unlike layings there are, told apart by how many works of each set are on places of each set."""
    work_sets = [tuple(members) for members in alike_works(job)]
    place_sets = alike_places(job)
    set_of_place = {place: at for at, places in enumerate(place_sets) for place in places}
    found = set()
    for laying in itertools.permutations(range(len(job[0]))):
        kinds = [set_of_place[place] for place in laying]
        found.add(tuple(tuple(sorted([kinds[work] for work in works])) for works in work_sets))
    return len(found)


class HowManyUnlike(unittest.TestCase):
    def test_by_hand(self):
        assert_number(self, 3, how_many_unlike, job_of_sets("aab", "abc", 60))
        assert_number(self, 2, how_many_unlike, job_of_sets("aab", "aab", 60))
        assert_number(self, 3, how_many_unlike, job_of_sets("aabb", "aabb", 60))
        assert_number(self, 1, how_many_unlike, job_of_sets("aaa", "abc", 60))

    def test_against_all_layings(self):
        for size in range(1, 6):
            for job in alike_jobs(size):
                firsts = {min(alike) for alike in classes(job)}
                assert_number(self, len(firsts), how_many_unlike, job)
                told = {first_alike(job, laying) for laying in itertools.permutations(range(size))}
                self.assertEqual(told, firsts)

    def test_none_alike(self):
        for size in range(1, 9):
            assert_number(self, math.factorial(size), how_many_unlike, mixed_job(size, 64))
        assert_number(self, 40320, how_many_unlike, mixed_job(8, 65))

    def test_all_alike(self):
        for size in range(1, 9):
            for job in (empty_job(size), greatest_job(size), even_job(size, 1, 2, 3)):
                assert_number(self, 1, how_many_unlike, job)
            assert_number(self, 1, how_many_unlike, charged_job(square(size, lambda i, p: i)))
            assert_number(self, 1, how_many_unlike, charged_job(square(size, lambda i, p: p)))

    def test_two_of_eight_alike(self):
        assert_number(self, 20160, how_many_unlike, job_of_sets("abcdefgg", "abcdefgh", 66))
        assert_number(self, 20160, how_many_unlike, job_of_sets("abcdefgh", "aacdefgh", 66))
        # Where the two works are on the two places layings are alike in twos, else in fours.
        together = 2 * math.factorial(6)
        due = together // 2 + (40320 - together) // 4
        assert_number(self, due, how_many_unlike, job_of_sets("abcdefgg", "aacdefgh", 66))

    def test_great_jobs_counted_by_sets(self):
        for size in (6, 7):
            for job in alike_jobs(size):
                assert_number(self, counted_by_sets(job), how_many_unlike, job)
        for works, places in (("aabbccdd", "aabbccdd"), ("aaabbbcc", "abcdefgh"), ("aaaabbbb", "aaabbbcc")):
            job = job_of_sets(works, places, 67)
            self.assertEqual(alike_works(job), sets_by_signs(works))
            assert_number(self, counted_by_sets(job), how_many_unlike, job)

    def test_eight_works_in_a_few_seconds(self):
        jobs = alike_jobs(8)
        start = time.monotonic()
        for job in jobs:
            how_many_unlike(job)
        self.assertLess(time.monotonic() - start, 5)


if __name__ == "__main__":
    unittest.main()
