import itertools
import random
import unittest

from helper import (
    all_parts, assert_number, charged_job, completing, empty_job, free_places_of, free_works_of, gone_through_product,
    gone_through_sum, greatest_job, mixed_job, put, said_table, sample_jobs, some_layings, some_parts, square,
    written_cost,
)
from spotlay.bounds import bound, bound_table, least_product
from spotlay.jobs import cost, fixed

MOST = 10 ** 9


class LeastProduct(unittest.TestCase):
    def assert_product(self, one, other):
        due = gone_through_product(tuple(one), tuple(other))
        assert_number(self, due, least_product, one, other)
        assert_number(self, due, least_product, other, one)
        assert_number(self, due, least_product, one[::-1], sorted(other))

    def test_by_hand(self):
        assert_number(self, 1 * 6 + 2 * 5 + 3 * 4, least_product, [1, 2, 3], [4, 5, 6])
        assert_number(self, 1 * 6 + 2 * 5 + 3 * 4, least_product, [3, 1, 2], [5, 6, 4])
        assert_number(self, -1 * 3 + 2 * -5, least_product, [-1, 2], [-5, 3])
        assert_number(self, -7 * 8, least_product, [-7], [8])
        assert_number(self, 7 * 8, least_product, [-7], [-8])

    def test_of_two_empty_lists(self):
        assert_number(self, 0, least_product, [], [])

    def test_all_lists_of_two_few_numbers(self):
        for numbers in itertools.product((-2, -1, 0, 1, 3), repeat=4):
            self.assert_product(list(numbers[:2]), list(numbers[2:]))

    def test_against_all_ways(self):
        source = random.Random(40)
        for size in range(9):
            for least, most in ((0, 1), (-1, 1), (0, 999), (-9, 9), (-MOST, MOST), (-MOST, -1), (0, MOST)):
                for time in range(2 if size == 8 else 6):
                    one = [source.randint(least, most) for number in range(size)]
                    other = [source.randint(least, most) for number in range(size)]
                    self.assert_product(one, other)

    def test_at_both_bounds(self):
        source = random.Random(41)
        for size in range(9):
            low, high = [-MOST] * size, [MOST] * size
            assert_number(self, size * MOST * MOST, least_product, low, low)
            assert_number(self, size * MOST * MOST, least_product, high, high)
            assert_number(self, -size * MOST * MOST, least_product, low, high)
            for time in range(2):
                one = [source.choice((-MOST, MOST)) for number in range(size)]
                other = [source.choice((-MOST, MOST)) for number in range(size)]
                self.assert_product(one, other)

    def test_one_list_for_both(self):
        for numbers in ([], [3], [-3, 2], [5, -1, 0, 5], list(range(-4, 4))):
            due = gone_through_product(tuple(numbers), tuple(numbers))
            assert_number(self, due, least_product, numbers, numbers)


def jobs_and_parts():
    """Jobs of each size with parts in which none, some and all works are laid."""
    for job in sample_jobs():
        for part in some_parts(len(job[0]), 42, many=2):
            yield job, part


class BoundTable(unittest.TestCase):
    def assert_table(self, job, part):
        ahead = repr((job, part))
        for time in range(2):
            told = bound_table(job, part)
            self.assertIs(type(told), tuple)
            self.assertEqual(len(told), len(free_works_of(part)))
            for row in told:
                self.assertIs(type(row), tuple)
                self.assertEqual([type(number) for number in row], [int] * len(free_places_of(part)))
            self.assertEqual(told, said_table(job, part), ahead)
            self.assertEqual(repr((job, part)), ahead)

    def test_by_hand(self):
        job = (((0, 3), (5, 0)), ((0, 7), (11, 0)), ((1, 2), (4, 8)))
        self.assertEqual(bound_table(job, (None, None)), ((1 + 3 * 7, 2 + 3 * 11), (4 + 5 * 7, 8 + 5 * 11)))
        self.assertEqual(bound_table(job, (None, 1)), ((1 + 3 * 7 + 5 * 11,),))
        self.assertEqual(bound_table(job, (1, None)), ((4 + 5 * 7 + 3 * 11,),))
        self.assertEqual(bound_table(job, (1, 0)), ())

    def test_the_least_product_by_hand(self):
        flows = ((0, 2, 3), (0, 0, 0), (0, 0, 0))
        ways = ((0, 10, 100), (20, 0, 50), (7, 7, 0))
        job = (flows, ways, square(3, lambda i, p: 0))
        rows = ((2 * 100 + 3 * 10, 2 * 50 + 3 * 20, 5 * 7), (0, 0, 0), (0, 0, 0))
        self.assertEqual(bound_table(job, (None, None, None)), rows)

    def test_rows_and_columns_rise(self):
        job = charged_job(square(8, lambda i, p: 10 * i + p))
        part = (None, 6, None, 1, None, None, 3, 0)
        self.assertEqual(bound_table(job, part), tuple(tuple(10 * i + p for p in (2, 4, 5, 7)) for i in (0, 2, 4, 5)))

    def test_one_laid_work_sends_and_is_sent_to_by_the_right_way(self):
        for i, j in itertools.permutations(range(3), 2):
            for p, q in itertools.permutations(range(3), 2):
                part = tuple(q if work == j else None for work in range(3))
                works, places = free_works_of(part), free_places_of(part)
                for sent, way in itertools.product(((i, j), (j, i)), ((p, q), (q, p))):
                    job = put(put(empty_job(3), (0, *sent), 999), (1, *way), 998)
                    number = bound_table(job, part)[works.index(i)][places.index(p)]
                    self.assertEqual(number, 999 * 998 if (sent == (i, j)) == (way == (p, q)) else 0)

    def test_as_the_words_say(self):
        laid = set()
        for job, part in jobs_and_parts():
            laid.add((len(part), len(free_works_of(part))))
            self.assert_table(job, part)
        self.assertTrue({(8, 0), (8, 8)} < laid)

    def test_all_parts_of_small_jobs(self):
        for size in (1, 2, 3, 4):
            for job in (mixed_job(size, 43), mixed_job(size, 44, flow=3, way=3, charge=4)):
                for part in all_parts(size):
                    self.assert_table(job, part)

    def test_of_a_laying_the_table_without_rows(self):
        for job in sample_jobs():
            for laying in some_layings(len(job[0]), 45):
                self.assertEqual(bound_table(job, laying), ())

    def test_at_the_greatest_numbers(self):
        for size in range(1, 9):
            for laid in range(size + 1):
                part = tuple(range(laid)) + (None,) * (size - laid)
                number = 10 ** 6 + 999 * 999 * (2 * laid + size - laid - 1)
                self.assertEqual(bound_table(greatest_job(size), part), ((number,) * (size - laid),) * (size - laid))


class Bound(unittest.TestCase):
    def test_by_hand(self):
        job = (((0, 3), (5, 0)), ((0, 7), (11, 0)), ((1, 2), (4, 8)))
        assert_number(self, 74, bound, job, (None, None))
        assert_number(self, 85, bound, job, (0, None))
        assert_number(self, 74, bound, job, (1, None))
        assert_number(self, 85, bound, job, (0, 1))

    def test_the_fixed_cost_and_the_least_sum(self):
        for job, part in jobs_and_parts():
            assert_number(self, written_cost(job, part) + gone_through_sum(said_table(job, part)), bound, job, part)

    def test_no_laying_that_completes_the_part_costs_less(self):
        least_is_more = 0
        for job, part in jobs_and_parts():
            # Greater parts are gone through below.
            if len(free_works_of(part)) <= 6:
                least = min(written_cost(job, laying) for laying in completing(part))
                self.assertLessEqual(bound(job, part), least)
                least_is_more += bound(job, part) < least
        self.assertTrue(least_is_more > 10)

    def test_no_laying_of_eight_works_costs_less(self):
        for job in (mixed_job(8, 46), greatest_job(8)):
            part = (None,) * 8
            self.assertLessEqual(bound(job, part), min(written_cost(job, laying) for laying in completing(part)))

    def test_all_parts_of_small_jobs(self):
        for size in (1, 2, 3, 4):
            for job in (mixed_job(size, 47), mixed_job(size, 48, flow=2, way=2, charge=1)):
                for part in all_parts(size):
                    least = min(written_cost(job, laying) for laying in completing(part))
                    due = written_cost(job, part) + gone_through_sum(said_table(job, part))
                    self.assertLessEqual(due, least)
                    assert_number(self, due, bound, job, part)

    def test_where_two_are_free_it_is_the_least(self):
        for seed in range(20):
            job = mixed_job(8, seed, flow=9, way=9, charge=20)
            part = (None, *tuple(random.Random(seed).sample(range(8), 6)), None)
            assert_number(self, min(written_cost(job, laying) for laying in completing(part)), bound, job, part)

    def test_of_a_laying_it_is_its_cost(self):
        for job in sample_jobs():
            for laying in some_layings(len(job[0]), 49):
                assert_number(self, written_cost(job, laying), bound, job, laying)
                self.assertEqual(bound(job, laying), cost(job, laying))
                self.assertEqual(bound(job, laying), fixed(job, laying))

    def test_at_the_greatest_numbers(self):
        for size in range(1, 9):
            total = size * (size - 1) * 999 * 999 + size * 10 ** 6
            for part in some_parts(size, 50):
                assert_number(self, total, bound, greatest_job(size), part)
                assert_number(self, 0, bound, empty_job(size), part)


if __name__ == "__main__":
    unittest.main()
