import itertools
import random
import unittest

from helper import (
    FAR, all_parts, anything, assert_number, assert_told, charged_job, empty_job, even_job, found,
    greatest_job, mixed_job, nested, put, sample_jobs, some_layings, square, written_cost,
)
from spotlay.jobs import cost, fixed, is_job, is_laying, is_part

SIZES = range(1, 9)
BOUNDS = (999, 999, 10 ** 6)
NO_NUMBERS = [
    True, False, None, "", "0", "1", (), (0,), (1,), [], [0], [1], {}, {0: 0}, -1, -999, FAR, -FAR,
    nested(lambda thing: (thing,), 0, 5), nested(lambda thing: [thing], 0, 5),
]
NO_ROWS = [None, 0, 1, FAR, True, False, "", "0", "00", "0" * 8, {}, {0: 0}, {0: 0, 1: 0}, [], [0], [0, 0]]


def cells(size):
    """All cells of small squares, the corners and some others of great ones."""
    if size <= 3:
        return list(itertools.product(range(size), repeat=2))
    return [(0, 0), (0, 1), (1, 0), (0, size - 1), (size - 1, 0), (size - 2, size - 1), (size - 1, size - 1)]


class IsJob(unittest.TestCase):
    def test_true_of_jobs_of_each_size(self):
        for job in sample_jobs():
            assert_told(self, True, is_job, job)

    def test_true_at_both_bounds_in_each_cell(self):
        for size in SIZES:
            for which, (row, column) in itertools.product(range(3), cells(size)):
                if which < 2 and row == column:
                    continue
                assert_told(self, True, is_job, put(empty_job(size), (which, row, column), BOUNDS[which]))
                assert_told(self, True, is_job, put(greatest_job(size), (which, row, column), 0))

    def test_false_of_one_wrong_number(self):
        for size in SIZES:
            for which, (row, column) in itertools.product(range(3), cells(size)):
                for job in (empty_job(size), greatest_job(size)):
                    for wrong in NO_NUMBERS + [BOUNDS[which] + 1]:
                        assert_told(self, False, is_job, put(job, (which, row, column), wrong))

    def test_false_where_one_meets_itself_with_more_than_0(self):
        for size in SIZES:
            for which, at in itertools.product(range(2), range(size)):
                for wrong in (1, 999):
                    assert_told(self, False, is_job, put(mixed_job(size, 1), (which, at, at), wrong))

    def test_true_where_costs_stand_at_the_same_number(self):
        for size in SIZES:
            for at in range(size):
                assert_told(self, True, is_job, put(mixed_job(size, 2), (2, at, at), 10 ** 6))

    def test_false_of_a_row_with_one_more_or_fewer(self):
        for size in SIZES:
            job = empty_job(size)
            for path in itertools.product(range(3), range(size)):
                row = found(job, path)
                assert_told(self, False, is_job, put(job, path, row + (0,)))
                assert_told(self, False, is_job, put(job, path, row[1:]))

    def test_false_of_a_square_with_one_row_more_or_fewer(self):
        for size in SIZES:
            job = empty_job(size)
            for which in range(3):
                assert_told(self, False, is_job, put(job, (which,), job[which] + (job[which][0],)))
                assert_told(self, False, is_job, put(job, (which,), job[which][1:]))

    def test_false_of_squares_of_unlike_sizes(self):
        for one, other in itertools.permutations(SIZES, 2):
            for which in range(3):
                assert_told(self, False, is_job, put(empty_job(one), (which,), empty_job(other)[which]))

    def test_false_of_more_or_fewer_squares(self):
        for size in SIZES:
            job = empty_job(size)
            for wrong in (job[:2], job[:1], job + (job[2],), job + (None,), job[0], job[0][0]):
                assert_told(self, False, is_job, wrong)

    def test_false_of_a_list_for_a_tuple_at_any_depth(self):
        for size in SIZES:
            job = empty_job(size)
            paths = [(), (0,), (1,), (2,)] + list(itertools.product(range(3), range(size)))
            for path in paths:
                assert_told(self, False, is_job, put(job, path, list(found(job, path))))
            assert_told(self, False, is_job, [[list(row) for row in square] for square in job])

    def test_false_of_other_kinds_for_a_square_or_a_row(self):
        for size in SIZES:
            job = empty_job(size)
            fitting = [{at: 0 for at in range(size)}, "0" * size, [0] * size, (None,) * size]
            paths = [(0,), (1,), (2,)] + list(itertools.product(range(3), range(size)))
            for path in paths:
                for wrong in NO_ROWS + fitting:
                    assert_told(self, False, is_job, put(job, path, wrong))

    def test_false_of_no_works_and_of_nine(self):
        assert_told(self, False, is_job, ((), (), ()))
        assert_told(self, False, is_job, (((),), ((),), ((),)))
        for size in (9, 10, 20):
            assert_told(self, False, is_job, empty_job(size))
            assert_told(self, False, is_job, greatest_job(size))

    def test_false_of_anything_else(self):
        for thing in anything():
            assert_told(self, False, is_job, thing)
            assert_told(self, False, is_job, (thing, thing, thing))
            assert_told(self, False, is_job, empty_job(1)[:2] + (thing,))

    def test_false_of_a_job_in_something_else(self):
        for size in (1, 3, 8):
            job = mixed_job(size, 3)
            for wrong in ((job,), [job], {0: job}, (job, job, job), repr(job), (job[0], job[1], job)):
                assert_told(self, False, is_job, wrong)


def is_place(size, thing):
    return type(thing) is int and 0 <= thing <= size - 1


def said_part(size, thing):
    """Whether it is a part, by the words of the document."""
    if type(thing) is not tuple or len(thing) != size:
        return False
    if not all(one is None or is_place(size, one) for one in thing):
        return False
    return all(thing[i] is None or thing[i] != thing[j] for i, j in itertools.combinations(range(size), 2))


def said_laying(size, thing):
    return said_part(size, thing) and not any(one is None for one in thing)


class LayingsAndParts(unittest.TestCase):
    def assert_both(self, job, thing):
        size = len(job[0])
        assert_told(self, said_part(size, thing), is_part, job, thing)
        assert_told(self, said_laying(size, thing), is_laying, job, thing)

    def test_true_of_layings(self):
        for job in sample_jobs():
            for laying in some_layings(len(job[0]), 4):
                assert_told(self, True, is_laying, job, laying)
                assert_told(self, True, is_part, job, laying)

    def test_none_as_often_as_it_likes_in_a_part_not_in_a_laying(self):
        for job in (empty_job(8), greatest_job(8), mixed_job(8, 5)):
            for many in range(9):
                part = tuple(range(many)) + (None,) * (8 - many)
                for turned in (part, part[::-1]):
                    assert_told(self, True, is_part, job, turned)
                    assert_told(self, many == 8, is_laying, job, turned)

    def test_all_short_tuples_of_things(self):
        for size in (1, 2, 3):
            job = greatest_job(size)
            things = list(range(-1, size + 1)) + [None, True, False, "0", FAR, -FAR, [0], (0,), {}]
            for length in range(size + 2):
                for thing in itertools.product(things, repeat=min(length, 3)):
                    self.assert_both(job, thing + (None,) * (length - 3))

    def test_one_wrong_place_in_each_size(self):
        wrongs = [-1, True, False, "0", "", [], [0], (), (0,), {}, {0: 0}, FAR, -FAR]
        for size in SIZES:
            job = mixed_job(size, 6)
            for laying in (tuple(range(size)), (None,) * size, tuple(range(size))[::-1]):
                for at in range(size):
                    for wrong in wrongs + [size, size + 1, -size]:
                        thing = put(laying, (at,), wrong)
                        assert_told(self, False, is_part, job, thing)
                        assert_told(self, False, is_laying, job, thing)
                    for place in range(size):
                        self.assert_both(job, put(laying, (at,), place))

    def test_a_place_twice(self):
        for size in SIZES:
            job = greatest_job(size)
            for one, other in itertools.combinations(range(size), 2):
                for place in range(size):
                    for ground in (tuple(range(size)), (None,) * size):
                        thing = put(put(ground, (one,), place), (other,), place)
                        assert_told(self, False, is_part, job, thing)
                        assert_told(self, False, is_laying, job, thing)

    def test_one_place_fewer_or_more(self):
        for size in SIZES:
            job = empty_job(size)
            for thing in (tuple(range(size - 1)), tuple(range(size + 1)), (None,) * (size - 1), (None,) * (size + 1)):
                assert_told(self, False, is_part, job, thing)
                assert_told(self, False, is_laying, job, thing)

    def test_another_kind_for_the_tuple(self):
        for size in SIZES:
            job = empty_job(size)
            laying = tuple(range(size))
            things = [list(laying), [None] * size, dict(enumerate(laying)), "0" * size, (laying,), [laying], job]
            for thing in things:
                assert_told(self, False, is_part, job, thing)
                assert_told(self, False, is_laying, job, thing)

    def test_anything(self):
        for job in (empty_job(1), mixed_job(3, 7), greatest_job(8)):
            size = len(job[0])
            for thing in anything():
                self.assert_both(job, thing)
                self.assert_both(job, (thing,) * size)
                self.assert_both(job, tuple(range(size - 1)) + (thing,))


class Costs(unittest.TestCase):
    def test_by_hand(self):
        job = (((0, 3), (5, 0)), ((0, 7), (11, 0)), ((1, 2), (4, 8)))
        assert_number(self, 3 * 7 + 5 * 11 + 1 + 8, cost, job, (0, 1))
        assert_number(self, 3 * 11 + 5 * 7 + 2 + 4, cost, job, (1, 0))
        assert_number(self, 2, fixed, job, (1, None))
        assert_number(self, 8, fixed, job, (None, 1))

    def test_one_flow_over_one_way_alone(self):
        for size in (2, 5, 8):
            for i, j in ((0, 1), (1, 0), (size - 1, 0)):
                job = put(put(empty_job(size), (0, i, j), 999), (1, i, j), 998)
                assert_number(self, 999 * 998, cost, job, tuple(range(size)))
                back = put(put(empty_job(size), (0, i, j), 999), (1, j, i), 998)
                assert_number(self, 0, cost, back, tuple(range(size)))

    def test_costs_of_works_on_places_alone(self):
        job = charged_job(square(8, lambda i, p: 100 * i + p))
        assert_number(self, sum(101 * at for at in range(8)), cost, job, tuple(range(8)))
        assert_number(self, 703, fixed, job, (None,) * 7 + (3,))
        assert_number(self, 307, fixed, job, (None, None, None, 7, None, None, None, None))

    def test_pair_by_pair(self):
        for job in sample_jobs():
            for laying in some_layings(len(job[0]), 8):
                assert_number(self, written_cost(job, laying), cost, job, laying)

    def test_at_the_greatest_numbers(self):
        for size in SIZES:
            job = greatest_job(size)
            total = size * (size - 1) * 999 * 999 + size * 10 ** 6
            for laying in some_layings(size, 9):
                assert_number(self, total, cost, job, laying)

    def test_fixed_pair_by_pair(self):
        for size in (1, 2, 3, 4):
            job = mixed_job(size, 10)
            for part in all_parts(size):
                assert_number(self, written_cost(job, part), fixed, job, part)

    def test_fixed_pair_by_pair_of_jobs_of_each_size(self):
        source = random.Random(11)
        for job in sample_jobs():
            for laying in some_layings(len(job[0]), 12):
                part = tuple(source.choice((place, None)) for place in laying)
                assert_number(self, written_cost(job, part), fixed, job, part)

    def test_fixed_at_the_greatest_numbers(self):
        for laid in range(9):
            part = (None,) * (8 - laid) + tuple(range(laid))
            total = laid * (laid - 1) * 999 * 999 + laid * 10 ** 6
            assert_number(self, total, fixed, even_job(8, 999, 999, 10 ** 6), part)

    def test_fixed_where_all_are_free_is_0(self):
        for job in sample_jobs():
            assert_number(self, 0, fixed, job, (None,) * len(job[0]))

    def test_fixed_where_none_is_free_is_the_cost(self):
        for job in sample_jobs():
            for laying in some_layings(len(job[0]), 13):
                assert_number(self, cost(job, laying), fixed, job, laying)


if __name__ == "__main__":
    unittest.main()
