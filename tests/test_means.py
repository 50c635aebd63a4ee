import math
import random
import time
import unittest
from fractions import Fraction

from helper import (
    FAR, all_free, all_parts, assert_laying, charged_job, completing, empty_job, even_job, free_places_of,
    greatest_job, mirrored_job, mixed_job, put, sample_jobs, some_layings, some_parts, square, written_cost,
)
from spotlay.jobs import cost
from spotlay.means import by_means, mean


def said_mean(job, part):
    """The mean, all layings that complete the part gone through."""
    layings = list(completing(part))
    return Fraction(sum(written_cost(job, laying) for laying in layings), len(layings))


def as_pair(number):
    return (number.numerator, number.denominator)


def assert_fraction(case, told):
    case.assertIs(type(told), tuple)
    case.assertEqual([type(number) for number in told], [int, int])
    over, under = told
    case.assertTrue(under >= 1)
    case.assertEqual(math.gcd(over, under), 1)


class Mean(unittest.TestCase):
    def assert_mean(self, job, part, due):
        ahead = repr((job, part))
        for again in range(2):
            told = mean(job, part)
            assert_fraction(self, told)
            self.assertEqual(told, as_pair(due), ahead)
            self.assertEqual(repr((job, part)), ahead)

    def test_by_hand(self):
        job = (((0, 3), (5, 0)), ((0, 7), (11, 0)), ((1, 2), (4, 8)))
        self.assertEqual(mean(job, (None, None)), (159, 2))
        self.assertEqual(mean(job, (0, None)), (85, 1))
        self.assertEqual(mean(job, (None, 0)), (74, 1))
        self.assertEqual(mean(job, (1, 0)), (74, 1))
        self.assertEqual(mean(charged_job(((1, 0, 0), (0, 0, 0), (0, 0, 0))), (None,) * 3), (1, 3))
        self.assertEqual(mean(charged_job(((2, 0, 0), (0, 4, 0), (0, 0, 0))), (None,) * 3), (2, 1))

    def test_all_parts_of_small_jobs(self):
        for job in sample_jobs():
            if len(job[0]) <= 4:
                for part in all_parts(len(job[0])):
                    self.assert_mean(job, part, said_mean(job, part))

    def test_parts_of_five_works(self):
        for job in sample_jobs() + [mirrored_job(5, 1), mixed_job(5, 2, flow=3, way=2, charge=1)]:
            if len(job[0]) == 5:
                for part in some_parts(5, 90, many=5):
                    self.assert_mean(job, part, said_mean(job, part))

    def test_parts_of_great_jobs(self):
        for job in sample_jobs():
            size = len(job[0])
            if size > 5:
                for part in some_parts(size, 91, many=4):
                    if part.count(None) <= 5:
                        self.assert_mean(job, part, said_mean(job, part))

    def test_all_free_of_six_to_eight_works(self):
        for size in (6, 7, 8):
            job = mixed_job(size, 92)
            self.assert_mean(job, all_free(job), said_mean(job, all_free(job)))

    def test_one_number_alone(self):
        for size in range(2, 6):
            zeros = square(size, lambda i, j: 0)
            for i, j in ((0, 1), (1, 0), (size - 1, 0), (0, size - 1)):
                for p, q in ((0, 1), (1, 0), (size - 1, size - 2)):
                    job = (put(zeros, (i, j), 1), put(zeros, (p, q), 1), zeros)
                    self.assert_mean(job, all_free(job), Fraction(1, size * (size - 1)))
                    job = (zeros, zeros, put(zeros, (i, p), 1))
                    self.assert_mean(job, all_free(job), Fraction(1, size))

    def test_of_a_laying_its_cost(self):
        for job in sample_jobs():
            for laying in some_layings(len(job[0]), 93):
                self.assert_mean(job, laying, Fraction(written_cost(job, laying)))
                self.assertEqual(mean(job, laying), (cost(job, laying), 1))

    def test_one_work_free(self):
        for size in range(1, 9):
            job = mixed_job(size, 94)
            for laying in some_layings(size, 95, many=2):
                for work in range(size):
                    self.assert_mean(job, put(laying, (work,), None), Fraction(written_cost(job, laying)))

    def test_of_one_work(self):
        for charge in (0, 7, 10 ** 6):
            job = (((0,),), ((0,),), ((charge,),))
            self.assertEqual(mean(job, (None,)), (charge, 1))
            self.assertEqual(mean(job, (0,)), (charge, 1))

    def test_of_a_job_of_zeros(self):
        for size in range(1, 9):
            for part in some_parts(size, 96):
                self.assertEqual(mean(empty_job(size), part), (0, 1))

    def test_the_greatest_numbers(self):
        for size in range(1, 9):
            job = greatest_job(size)
            for part in some_parts(size, 97):
                self.assert_mean(job, part, Fraction(size * 10 ** 6 + size * (size - 1) * 999 * 999))

    def test_eight_works_in_a_few_seconds(self):
        start = time.monotonic()
        for job in (greatest_job(8), mixed_job(8, 98)):
            mean(job, all_free(job))
            by_means(job)
        self.assertLess(time.monotonic() - start, 5)


class ByMeans(unittest.TestCase):
    def assert_by_means(self, job, tell_mean):
        """Made as the words say, with means that are told by another way."""
        size = len(job[0])
        ahead = repr(job)
        told = by_means(job)
        self.assertEqual(repr(job), ahead)
        self.assertIs(type(told), tuple)
        self.assertEqual(len(told), 2)
        laying, means = told
        self.assertIs(type(means), list)
        self.assertEqual(len(means), size + 1)
        for number in means:
            assert_fraction(self, number)
        part = all_free(job)
        due = [tell_mean(job, part)]
        for work in range(size):
            parts = [put(part, (work,), place) for place in free_places_of(part)]
            numbers = [tell_mean(job, one) for one in parts]
            part = parts[numbers.index(min(numbers))]
            due.append(min(numbers))
        self.assertEqual(laying, part, ahead)
        self.assertEqual(means, [as_pair(number) for number in due])
        assert_laying(self, job, laying, means[-1][0])
        self.assertEqual(means[-1][1], 1)
        values = [Fraction(*number) for number in means]
        self.assertEqual(values, sorted(values, reverse=True))
        self.assertEqual(by_means(job), told)

    def jobs(self, size):
        jobs = [job for job in sample_jobs() if len(job[0]) == size]
        for seed in range(4):
            jobs += [mirrored_job(size, seed), mixed_job(size, seed, flow=1, way=1, charge=1)]
            jobs += [mixed_job(size, seed, flow=2, way=2, charge=0), mixed_job(size, seed, flow=0, charge=1)]
        jobs += [even_job(size, 999, 999, 0), charged_job(square(size, lambda i, p: abs(i - p)))]
        return jobs

    def test_by_hand(self):
        job = (((0, 3), (5, 0)), ((0, 7), (11, 0)), ((1, 2), (4, 8)))
        self.assertEqual(by_means(job), ((1, 0), [(159, 2), (74, 1), (74, 1)]))
        job = charged_job(((1, 0, 5), (0, 0, 0), (0, 0, 0)))
        self.assertEqual(by_means(job), ((1, 0, 2), [(2, 1), (0, 1), (0, 1), (0, 1)]))

    def test_against_all_layings(self):
        for size in range(1, 6):
            for job in self.jobs(size):
                self.assert_by_means(job, said_mean)

    def test_six_to_eight_works_against_all_layings(self):
        for size in (6, 7, 8):
            self.assert_by_means(mixed_job(size, 110), said_mean)
        self.assert_by_means(mixed_job(6, 111, flow=1, way=1, charge=0), said_mean)

    def test_great_jobs(self):
        for size in (6, 7, 8):
            for job in self.jobs(size):
                self.assert_by_means(job, lambda job, part: Fraction(*mean(job, part)))

    def test_ties(self):
        for size in range(1, 9):
            for job in (empty_job(size), greatest_job(size), even_job(size, 3, 4, 5)):
                laying, means = by_means(job)
                self.assertEqual(laying, tuple(range(size)))
                self.assertEqual(means, [(written_cost(job, laying), 1)] * (size + 1))

    def test_of_one_work(self):
        for charge in (0, 7, 10 ** 6):
            self.assertEqual(by_means((((0,),), ((0,),), ((charge,),))), ((0,), [(charge, 1), (charge, 1)]))

    def test_no_dearer_than_the_mean_of_all(self):
        source = random.Random(112)
        for draw in range(60):
            job = mixed_job(source.randint(1, 8), draw, charge=source.choice((0, 9, 10 ** 6)))
            laying, means = by_means(job)
            self.assertTrue(written_cost(job, laying) <= Fraction(*mean(job, all_free(job))))

    def test_asked_again_after_the_told_list_was_changed(self):
        for size in (1, 4, 8):
            job = mixed_job(size, 113)
            laying, means = by_means(job)
            kept = list(means)
            means[0] = (FAR, 1)
            means.pop()
            self.assertEqual(by_means(job), (laying, kept))
            means.clear()
            self.assertEqual(by_means(job), (laying, kept))


if __name__ == "__main__":
    unittest.main()
