import itertools
import random
import unittest

from helper import (
    FAR, assert_number, assert_told, charged_job, empty_job, greatest_job, mixed_job, sample_jobs, some_layings,
    square, written_cost,
)
from spotlay.exchanges import exchanged, is_settling, is_still, saved, settled

# Work 0 costs 1 on its place, all else nothing: the one exchange saves just 1.
ONE_TO_SAVE = charged_job(((1, 0), (0, 0)))


def pairs(size):
    return list(itertools.combinations(range(size), 2))


def swapped(laying, one, other):
    """The laying behind an exchange, written out work by work."""
    places = []
    for work, place in enumerate(laying):
        if work == one:
            place = laying[other]
        elif work == other:
            place = laying[one]
        places.append(place)
    return tuple(places)


def gain(job, laying, one, other):
    return written_cost(job, laying) - written_cost(job, swapped(laying, one, other))


def said_still(job, laying):
    return all(gain(job, laying, one, other) <= 0 for one, other in pairs(len(laying)))


def behind(laying, steps):
    for one, other in steps:
        laying = swapped(laying, one, other)
    return laying


def said_settling(job, laying, steps):
    """Whether it is such a list of steps, by the words of the document."""
    for one, other in steps:
        if (one, other) not in pairs(len(laying)) or gain(job, laying, one, other) <= 0:
            return False
        laying = swapped(laying, one, other)
    return said_still(job, laying)


def some_way_down(job, laying, seed):
    """Steps that save, each taken by chance from all that do, to a still laying."""
    source = random.Random(seed)
    steps = []
    while not said_still(job, laying):
        step = source.choice([pair for pair in pairs(len(laying)) if gain(job, laying, *pair) > 0])
        steps.append(step)
        laying = swapped(laying, *step)
    return steps


def jobs_and_layings():
    for job in sample_jobs():
        for laying in some_layings(len(job[0]), 20, many=2):
            yield job, laying


class Exchanged(unittest.TestCase):
    def test_each_gets_the_other_ones_place(self):
        self.assertEqual(exchanged((2, 0, 1), 0, 2), (1, 0, 2))
        self.assertEqual(exchanged((2, 0, 1), 2, 0), (1, 0, 2))
        self.assertEqual(exchanged((7, 6, 5, 4, 3, 2, 1, 0), 1, 6), (7, 1, 5, 4, 3, 2, 6, 0))

    def test_all_works_of_layings_of_each_size(self):
        for size in range(1, 9):
            for laying in some_layings(size, 21):
                for one, other in itertools.product(range(size), repeat=2):
                    ahead = repr(laying)
                    told = exchanged(laying, one, other)
                    self.assertIs(type(told), tuple)
                    self.assertEqual(told, swapped(laying, one, other))
                    self.assertEqual(repr(laying), ahead)

    def test_one_work_with_itself(self):
        for size in range(1, 9):
            laying = tuple(range(size))[::-1]
            for work in range(size):
                told = exchanged(laying, work, work)
                self.assertIs(type(told), tuple)
                self.assertEqual(told, laying)


class Saved(unittest.TestCase):
    def test_by_hand(self):
        job = (((0, 3), (5, 0)), ((0, 7), (11, 0)), ((1, 2), (4, 8)))
        assert_number(self, 85 - 74, saved, job, (0, 1), 0, 1)
        assert_number(self, 74 - 85, saved, job, (1, 0), 0, 1)
        assert_number(self, 1, saved, ONE_TO_SAVE, (0, 1), 0, 1)
        assert_number(self, -1, saved, ONE_TO_SAVE, (1, 0), 1, 0)

    def test_cost_ahead_less_cost_behind(self):
        signs = set()
        for job, laying in jobs_and_layings():
            for one, other in itertools.product(range(len(laying)), repeat=2):
                due = gain(job, laying, one, other)
                signs.add((due > 0) - (due < 0))
                assert_number(self, due, saved, job, laying, one, other)
        self.assertEqual(signs, {-1, 0, 1})

    def test_0_of_one_with_itself(self):
        for job, laying in jobs_and_layings():
            for work in range(len(laying)):
                assert_number(self, 0, saved, job, laying, work, work)

    def test_the_most_that_can_be_saved_or_lost_by_costs(self):
        job = charged_job(square(8, lambda i, p: 10 ** 6 if i == p else 0))
        assert_number(self, 2 * 10 ** 6, saved, job, tuple(range(8)), 0, 7)
        assert_number(self, -2 * 10 ** 6, saved, job, (7, 1, 2, 3, 4, 5, 6, 0), 0, 7)


class IsStill(unittest.TestCase):
    def test_against_all_exchanges(self):
        answers = set()
        for job, laying in jobs_and_layings():
            answers.add((len(laying), said_still(job, laying)))
            assert_told(self, said_still(job, laying), is_still, job, laying)
        self.assertTrue({(8, True), (8, False)} <= answers)

    def test_against_all_exchanges_in_all_layings(self):
        for seed in range(4):
            job = mixed_job(4, seed, flow=3, way=3, charge=4)
            for laying in itertools.permutations(range(4)):
                assert_told(self, said_still(job, laying), is_still, job, laying)

    def test_each_exchange_counts(self):
        for size in range(2, 9):
            for one, other in pairs(size):
                costs = square(size, lambda i, p: 0 if i == p or (i, p) in ((one, other), (other, one)) else 5)
                costs = tuple(
                    tuple(1 if (i, p) == (one, one) else costs[i][p] for p in range(size)) for i in range(size)
                )
                job = charged_job(costs)
                assert_told(self, False, is_still, job, tuple(range(size)))
                assert_told(self, True, is_still, job, swapped(tuple(range(size)), one, other))

    def test_what_saves_nothing_does_not_stir(self):
        for size in range(1, 9):
            for job in (empty_job(size), greatest_job(size)):
                assert_told(self, True, is_still, job, tuple(range(size)))

    def test_a_saving_of_1_stirs(self):
        assert_told(self, False, is_still, ONE_TO_SAVE, (0, 1))
        assert_told(self, True, is_still, ONE_TO_SAVE, (1, 0))

    def test_a_still_laying_need_not_be_the_least(self):
        job = charged_job(((1, 0, 10), (10, 1, 0), (0, 10, 1)))
        assert_told(self, True, is_still, job, (0, 1, 2))
        assert_told(self, True, is_still, job, (1, 2, 0))

    def test_one_work_alone(self):
        assert_told(self, True, is_still, greatest_job(1), (0,))


class Settled(unittest.TestCase):
    def assert_settled(self, job, laying, told):
        self.assertIs(type(told), tuple)
        self.assertEqual(len(told), 2)
        steps, end = told
        self.assertIs(type(steps), list)
        self.assertIs(type(end), tuple)
        for step in steps:
            self.assertIs(type(step), tuple)
            self.assertEqual([type(work) for work in step], [int, int])
        self.assertTrue(said_settling(job, laying, steps))
        self.assertEqual(end, behind(laying, steps))

    def test_each_step_saves_and_the_end_is_still(self):
        lengths = set()
        for job, laying in jobs_and_layings():
            ahead = repr((job, laying))
            told = settled(job, laying)
            self.assert_settled(job, laying, told)
            self.assertEqual(repr((job, laying)), ahead)
            lengths.add(len(told[0]))
        self.assertTrue(max(lengths) > 2)

    def test_told_lists_are_the_askers_own(self):
        for job in (mixed_job(8, 22), mixed_job(5, 23), empty_job(8), greatest_job(8), ONE_TO_SAVE):
            laying = tuple(range(len(job[0])))
            steps = settled(job, laying)[0]
            steps.append((0, 0))
            steps.insert(0, None)
            self.assert_settled(job, laying, settled(job, laying))
            steps.clear()
            again, more = settled(job, laying), settled(job, laying)
            self.assert_settled(job, laying, again)
            self.assertIsNot(again[0], more[0])

    def test_one_work_alone(self):
        for job in (empty_job(1), greatest_job(1)):
            self.assertEqual(settled(job, (0,)), ([], (0,)))

    def test_empty_where_still_at_once(self):
        for size in range(1, 9):
            for job in (empty_job(size), greatest_job(size)):
                for laying in some_layings(size, 24):
                    self.assertEqual(settled(job, laying), ([], laying))
        for seed in range(6):
            job = mixed_job(8, seed)
            end = settled(job, tuple(range(8)))[1]
            self.assertEqual(settled(job, end), ([], end))

    def test_a_saving_of_1_is_done(self):
        self.assertEqual(settled(ONE_TO_SAVE, (0, 1)), ([(0, 1)], (1, 0)))


def spoiled(steps, size):
    """Lists near to this one: left out, told twice, exchanged, one more, the last one left out."""
    for at in range(len(steps)):
        yield steps[:at] + steps[at + 1:]
        yield steps[:at + 1] + steps[at:]
    for one, other in pairs(len(steps)):
        turned = list(steps)
        turned[one], turned[other] = steps[other], steps[one]
        yield turned
    for pair in pairs(size):
        yield steps + [pair]
        yield [pair] + steps
    yield steps[:-1]
    yield []


def wrong_pairs(pair, size):
    one, other = pair
    yield from [(other, one), (one, one), (other, other), (-1, other), (one, size), (one, FAR), (-FAR, other)]
    yield from [(one - size, other), (one - size, other - size), (one, other - size), (FAR, FAR), (size, size + 1)]
    yield from [(other - size, one), (one, other + size), (-FAR, FAR)]


class IsSettling(unittest.TestCase):
    def test_true_of_what_settled_tells(self):
        for job, laying in jobs_and_layings():
            assert_told(self, True, is_settling, job, laying, settled(job, laying)[0])

    def test_true_of_other_ways_down(self):
        others = 0
        for job, laying in jobs_and_layings():
            for seed in range(2):
                steps = some_way_down(job, laying, seed)
                others += steps != settled(job, laying)[0]
                assert_told(self, True, is_settling, job, laying, steps)
        self.assertTrue(others > 20)

    def test_false_of_a_wrong_pair_anywhere(self):
        for job, laying in jobs_and_layings():
            steps = some_way_down(job, laying, 25)
            for at, pair in enumerate(steps):
                for wrong in wrong_pairs(pair, len(laying)):
                    assert_told(self, False, is_settling, job, laying, steps[:at] + [wrong] + steps[at + 1:])

    def test_false_of_a_wrong_pair_behind(self):
        for job, laying in jobs_and_layings():
            steps = settled(job, laying)[0]
            size = len(laying)
            for work in (0, size - 1):
                for wrong in [(work, work), (work, size), (-1, work), (-size, work), (work, FAR), (-FAR, work)]:
                    assert_told(self, False, is_settling, job, laying, steps + [wrong])
                    assert_told(self, False, is_settling, job, laying, [wrong] + steps)

    def test_false_where_numbers_count_from_the_end(self):
        assert_told(self, True, is_settling, ONE_TO_SAVE, (0, 1), [(0, 1)])
        for wrong in [(-1, 0), (-2, -1), (-2, 1), (0, -1), (1, 0), (0, 2), (0, 0), (1, 1), (-FAR, FAR)]:
            assert_told(self, False, is_settling, ONE_TO_SAVE, (0, 1), [wrong])

    def test_false_where_the_end_is_not_still(self):
        many = 0
        for job, laying in jobs_and_layings():
            steps = settled(job, laying)[0]
            for length in range(len(steps)):
                many += 1
                assert_told(self, False, is_settling, job, laying, steps[:length])
        self.assertTrue(many > 20)

    def test_false_of_a_step_that_saves_nothing(self):
        for size in range(2, 9):
            for job in (empty_job(size), greatest_job(size)):
                for pair in pairs(size):
                    assert_told(self, False, is_settling, job, tuple(range(size)), [pair])
                    assert_told(self, False, is_settling, job, tuple(range(size)), [pair, pair])

    def test_false_of_a_step_that_costs_though_the_end_is_still(self):
        assert_told(self, False, is_settling, ONE_TO_SAVE, (1, 0), [(0, 1), (0, 1)])
        job = charged_job(((1, 0, 10), (10, 1, 0), (0, 10, 1)))
        self.assertEqual(behind((0, 1, 2), [(0, 1), (1, 2)]), (1, 2, 0))
        assert_told(self, False, is_settling, job, (0, 1, 2), [(0, 1), (1, 2)])

    def test_spoiled_lists_as_the_words_say(self):
        answers = set()
        jobs = [mixed_job(size, seed) for size in (2, 3, 5, 8) for seed in (26, 27)]
        jobs += [mixed_job(size, 28, flow=2, way=2, charge=3) for size in (4, 6, 8)]
        # Works that all go home: steps may stand in many orders.
        jobs.append(charged_job(square(8, lambda i, p: 0 if i == p else 10 ** 6)))
        for job in jobs + [greatest_job(8)]:
            size = len(job[0])
            for laying in (tuple(range(size)), (1, 0) + tuple(range(2, size))[::-1]):
                for way in (settled(job, laying)[0], some_way_down(job, laying, 29)):
                    for steps in spoiled(way, size):
                        due = said_settling(job, laying, steps)
                        answers.add((due, steps == []))
                        assert_told(self, due, is_settling, job, laying, steps)
        self.assertEqual(answers, {(True, True), (True, False), (False, True), (False, False)})

    def test_the_empty_list_just_where_the_laying_is_still(self):
        for job, laying in jobs_and_layings():
            assert_told(self, said_still(job, laying), is_settling, job, laying, [])

    def test_one_work_alone(self):
        for job in (empty_job(1), greatest_job(1)):
            assert_told(self, True, is_settling, job, (0,), [])
            for wrong in [(0, 0), (0, 1), (-1, 0), (1, 0), (1, 2), (0, FAR)]:
                assert_told(self, False, is_settling, job, (0,), [wrong])


if __name__ == "__main__":
    unittest.main()
