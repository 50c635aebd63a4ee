import itertools
import random
import unittest

from helper import (
    Kept, anything, assert_refused, charged_job, empty_job, even_job, greatest_job, mixed_job, put, sample_jobs,
    some_layings, square, written_cost, wrong_numbers, wrong_works,
)
from spotlay.errors import NoJob, NoLaying, NoNumber, NoWork, Nothing
from spotlay.exchanges import is_still
from spotlay.keeper import Keeper

MOST = (999, 999, 10 ** 6)


def deeds_of(keeper):
    """The deeds that put a number in flows, ways and costs."""
    return (keeper.flow, keeper.way, keeper.charge)


def drawn_deed(kept, source):
    """A deed, as a word and what is handed in with it."""
    size = len(kept.places)
    word = source.choice(("put", "put", "put", "swap", "better", "back"))
    if word == "swap":
        return word, source.randrange(size), source.randrange(size)
    if word != "put":
        return (word,)
    at = source.choice((0, 1, 2) if size > 1 else (2,))
    one, other = source.sample(range(size), 2) if at < 2 else (source.randrange(size), source.randrange(size))
    numbers = (0, MOST[at], kept.squares[at][one][other], source.randint(0, 9), source.randint(0, MOST[at]))
    return word, at, one, other, source.choice(numbers)


class KeeperTest(unittest.TestCase):
    def assert_stands(self, keeper, kept):
        """The keeper tells what is kept in the test, by its kinds and again."""
        for again in range(2):
            job, laying, number = keeper.job(), keeper.laying(), keeper.cost()
            self.assertEqual(repr(job), repr(kept.job()))
            self.assertEqual(repr(laying), repr(kept.laying()))
            self.assertIs(type(number), int)
            self.assertEqual(number, kept.cost())

    def assert_better(self, keeper, kept):
        due = kept.better()
        told = keeper.better()
        self.assertEqual(repr(told), repr(due))

    def assert_back(self, keeper, kept):
        if kept.undone_by:
            kept.back()
            self.assertIsNone(keeper.back())
        else:
            assert_refused(self, Nothing, keeper.back)

    def do(self, keeper, kept, deed):
        """One deed, done by both."""
        word, *what = deed
        if word == "put":
            at, one, other, number = what
            self.assertIsNone(deeds_of(keeper)[at](one, other, number))
            kept.put(at, one, other, number)
        elif word == "swap":
            self.assertIsNone(keeper.swap(*what))
            kept.swap(*what)
        elif word == "better":
            self.assert_better(keeper, kept)
        else:
            self.assert_back(keeper, kept)
        self.assert_stands(keeper, kept)

    def undo_all(self, keeper, kept):
        while kept.undone_by:
            self.do(keeper, kept, ("back",))
        assert_refused(self, Nothing, keeper.back)
        self.assert_stands(keeper, kept)


class Begun(KeeperTest):
    def test_with_jobs_and_layings(self):
        for job in sample_jobs():
            for laying in some_layings(len(job[0]), 120, many=2):
                ahead = repr((job, laying))
                self.assert_stands(Keeper(job, laying), Kept(job, laying))
                self.assertEqual(repr((job, laying)), ahead)

    def test_with_what_is_no_job(self):
        wrong = anything()
        flows, ways, costs = mixed_job(3, 121)
        wrong += [(flows, ways), [flows, ways, costs], (flows, ways, costs, costs), (flows, ways, list(costs))]
        wrong += [put((flows, ways, costs), (0, 0, 1), number) for number in (-1, 1000, True, None, "1")]
        wrong += [put((flows, ways, costs), (1, 2, 2), 1), put((flows, ways, costs), (2, 0, 0), 10 ** 6 + 1)]
        for thing in wrong:
            for laying in ((0, 1, 2), (), None, (0,), [], thing):
                assert_refused(self, NoJob, Keeper, thing, laying)

    def test_with_what_is_no_laying(self):
        for size in range(1, 9):
            laying = tuple(range(size))
            wrong = [list(laying), laying + (size,), laying[:-1], laying[:-1] + (None,), (None,) * size]
            wrong += [laying[:-1] + (size,), laying[:-1] + (-1,), laying[:-1] + (True,), laying[:-1] + ("0",)]
            wrong += [(False,) + laying[1:], (laying,), laying + laying, str(laying)]
            if size > 1:
                wrong += [(0,) * size, laying[:-1] + (0,)]
            for thing in wrong + anything():
                assert_refused(self, NoLaying, Keeper, mixed_job(size, 122), thing)

    def test_both_amiss(self):
        for thing in anything():
            for other in (None, (0, 0), (None,), [], thing):
                assert_refused(self, NoJob, Keeper, thing, other)


class Deeds(KeeperTest):
    def test_by_hand(self):
        keeper = Keeper((((0, 3), (5, 0)), ((0, 7), (11, 0)), ((1, 2), (4, 8))), (0, 1))
        self.assertEqual(keeper.cost(), 85)
        self.assertEqual(keeper.better(), (0, 1, 11))
        self.assertEqual((keeper.laying(), keeper.cost()), ((1, 0), 74))
        self.assertIsNone(keeper.better())
        self.assertIsNone(keeper.flow(0, 1, 4))
        self.assertEqual(keeper.cost(), 85)
        self.assertIsNone(keeper.way(0, 1, 0))
        self.assertEqual(keeper.cost(), 85 - 35)
        self.assertIsNone(keeper.charge(1, 0, 1000))
        self.assertEqual(keeper.cost(), 50 + 996)
        self.assertEqual(keeper.job(), (((0, 4), (5, 0)), ((0, 0), (11, 0)), ((1, 2), (1000, 8))))
        self.assertIsNone(keeper.swap(0, 1))
        self.assertEqual(keeper.laying(), (0, 1))
        for due in ((1, 0), (1, 0), (1, 0), (1, 0), (0, 1)):
            self.assertIsNone(keeper.back())
            self.assertEqual(keeper.laying(), due)
        self.assertEqual(keeper.cost(), 85)
        assert_refused(self, Nothing, keeper.back)

    def test_long_drawn_rows_of_deeds(self):
        for size in range(1, 9):
            for job in (mixed_job(size, 123), mixed_job(size, 124, flow=2, way=2, charge=2), greatest_job(size)):
                source = random.Random(size)
                laying = tuple(source.sample(range(size), size))
                keeper, kept = Keeper(job, laying), Kept(job, laying)
                for time in range(120):
                    self.do(keeper, kept, drawn_deed(kept, source))
                self.undo_all(keeper, kept)
                self.assertEqual((keeper.job(), keeper.laying()), (job, laying))

    def test_each_number_of_a_job(self):
        for size in (1, 2, 3, 8):
            job = mixed_job(size, 125)
            laying = tuple(range(size))[::-1]
            keeper, kept = Keeper(job, laying), Kept(job, laying)
            for at, one, other in itertools.product((0, 1, 2), range(size), range(size)):
                if at == 2 or one != other:
                    for number in (0, 1, MOST[at]):
                        self.do(keeper, kept, ("put", at, one, other, number))
            self.undo_all(keeper, kept)

    def test_the_number_that_stands_there_is_a_deed(self):
        for size in (1, 2, 5, 8):
            job = mixed_job(size, 126)
            laying = tuple(range(size))
            for at in (0, 1, 2):
                one, other = (0, size - 1) if size > 1 or at == 2 else (None, None)
                if one is None:
                    continue
                keeper, kept = Keeper(job, laying), Kept(job, laying)
                for time in range(3):
                    self.do(keeper, kept, ("put", at, one, other, job[at][one][other]))
                for time in range(3):
                    self.assertIsNone(keeper.back())
                    self.assertEqual(keeper.job(), job)
                assert_refused(self, Nothing, keeper.back)

    def test_a_work_with_itself_is_a_deed(self):
        for size in range(1, 9):
            keeper = Keeper(mixed_job(size, 127), tuple(range(size)))
            for work in range(size):
                self.assertIsNone(keeper.swap(work, work))
                self.assertEqual(keeper.laying(), tuple(range(size)))
            for work in range(size):
                self.assertIsNone(keeper.back())
            assert_refused(self, Nothing, keeper.back)

    def test_swaps_either_way(self):
        for size in range(2, 9):
            for one, other in itertools.permutations(range(size), 2):
                laying = tuple(range(size))[::-1]
                keeper, kept = Keeper(mixed_job(size, 128), laying), Kept(mixed_job(size, 128), laying)
                self.do(keeper, kept, ("swap", one, other))
                self.undo_all(keeper, kept)


class Better(KeeperTest):
    def test_till_none(self):
        for job in sample_jobs():
            for laying in some_layings(len(job[0]), 129, many=1):
                keeper, kept = Keeper(job, laying), Kept(job, laying)
                told = keeper.better()
                while told is not None:
                    self.assertEqual(repr(told), repr(kept.better()))
                    self.assertTrue(told[2] > 0)
                    self.assert_stands(keeper, kept)
                    told = keeper.better()
                self.assertIsNone(kept.better())
                self.assertIs(is_still(keeper.job(), keeper.laying()), True)
                self.assert_stands(keeper, kept)
                self.undo_all(keeper, kept)

    def test_the_first_one_as_sorted_of_several(self):
        for size in range(2, 9):
            # Each exchange with work 0 saves as much, and no other one saves anything.
            job = charged_job(square(size, lambda i, p: 5 if i == p == 0 else 0))
            self.assertEqual(Keeper(job, tuple(range(size))).better(), (0, 1, 5))
            last = size - 1
            job = charged_job(square(size, lambda i, p: 5 if i == p == last else 0))
            self.assertEqual(Keeper(job, tuple(range(size))).better(), (0, last, 5))

    def test_the_most_and_not_the_first_that_saves(self):
        for size in range(3, 9):
            costs = put(put(square(size, lambda i, p: 0), (0, 0), 1), (size - 1, size - 1), 10 ** 6)
            keeper = Keeper(charged_job(costs), tuple(range(size)))
            self.assertEqual(keeper.better(), (0, size - 1, 10 ** 6 + 1))

    def test_none_is_no_deed(self):
        for size in range(1, 9):
            for job in (empty_job(size), greatest_job(size), even_job(size, 1, 2, 3)):
                keeper = Keeper(job, tuple(range(size)))
                for time in range(3):
                    self.assertIsNone(keeper.better())
                assert_refused(self, Nothing, keeper.back)
                keeper.charge(0, 0, 7)
                if size == 1:
                    self.assertIsNone(keeper.better())
                keeper.back()
                self.assertEqual(keeper.job(), job)
                assert_refused(self, Nothing, keeper.back)

    def test_of_one_work(self):
        keeper = Keeper(mixed_job(1, 130), (0,))
        self.assertIsNone(keeper.better())
        self.assertIsNone(keeper.swap(0, 0))
        self.assertIsNone(keeper.better())
        self.assertIsNone(keeper.back())
        assert_refused(self, Nothing, keeper.back)


class Refusals(KeeperTest):
    def begun(self, size, deeds=3):
        """A keeper with some deeds behind it, and the same kept in the test."""
        job = mixed_job(size, 131)
        laying = tuple(range(size))[::-1]
        keeper, kept = Keeper(job, laying), Kept(job, laying)
        for number in range(deeds):
            self.do(keeper, kept, ("put", 2, size - 1, 0, number))
        self.do(keeper, kept, ("swap", 0, size - 1))
        return keeper, kept

    def assert_refusals(self, keeper, kept, refusals):
        for refusal, function, given in refusals:
            assert_refused(self, refusal, function, *given)
            self.assert_stands(keeper, kept)
        self.undo_all(keeper, kept)

    def test_no_such_work_or_place(self):
        for size in range(1, 9):
            keeper, kept = self.begun(size)
            refusals = []
            for wrong in wrong_works(size):
                for right in (0, size - 1):
                    for function in deeds_of(keeper):
                        refusals.append((NoWork, function, (wrong, right, 5)))
                        refusals.append((NoWork, function, (right, wrong, 5)))
                    refusals.append((NoWork, keeper.swap, (wrong, right)))
                    refusals.append((NoWork, keeper.swap, (right, wrong)))
                refusals.append((NoWork, keeper.swap, (wrong, wrong)))
                for function in deeds_of(keeper):
                    refusals.append((NoWork, function, (wrong, wrong, 5)))
            self.assert_refusals(keeper, kept, refusals)

    def test_of_anything(self):
        keeper, kept = self.begun(4)
        refusals = []
        for thing in anything():
            if thing not in (0, 1) or thing is True or thing is False:
                refusals += [(NoWork, function, (thing, 2, 5)) for function in deeds_of(keeper)]
                refusals += [(NoWork, function, (2, thing, 5)) for function in deeds_of(keeper)]
                refusals += [(NoWork, keeper.swap, (thing, 2)), (NoWork, keeper.swap, (2, thing))]
            if type(thing) is not int:
                refusals += [(NoNumber, function, (1, 2, thing)) for function in deeds_of(keeper)]
        self.assert_refusals(keeper, kept, refusals)

    def test_flow_and_way_of_one_with_itself(self):
        for size in range(1, 9):
            keeper, kept = self.begun(size)
            refusals = []
            for work in range(size):
                for number in [0, 1, 999] + wrong_numbers(999):
                    refusals.append((NoWork, keeper.flow, (work, work, number)))
                    refusals.append((NoWork, keeper.way, (work, work, number)))
            self.assert_refusals(keeper, kept, refusals)

    def test_no_number(self):
        for size in range(1, 9):
            keeper, kept = self.begun(size)
            refusals = []
            for at, function in enumerate(deeds_of(keeper)):
                for number in wrong_numbers(MOST[at]):
                    for one, other in ((0, size - 1), (size - 1, 0)):
                        if at == 2 or one != other:
                            refusals.append((NoNumber, function, (one, other, number)))
            self.assert_refusals(keeper, kept, refusals)

    def test_both_amiss(self):
        for size in (1, 2, 5, 8):
            keeper, kept = self.begun(size)
            refusals = []
            for at, function in enumerate(deeds_of(keeper)):
                for wrong, number in zip(wrong_works(size), wrong_numbers(MOST[at])[::-1]):
                    refusals.append((NoWork, function, (wrong, 0, number)))
                    refusals.append((NoWork, function, (0, wrong, number)))
            self.assert_refusals(keeper, kept, refusals)

    def test_refused_deeds_among_others(self):
        for size in range(1, 9):
            keeper, kept = self.begun(size)
            source = random.Random(size)
            for time in range(60):
                self.do(keeper, kept, drawn_deed(kept, source))
                at = source.choice((0, 1, 2))
                wrong = source.choice(wrong_works(size))
                assert_refused(self, NoWork, deeds_of(keeper)[at], wrong, 0, 5)
                assert_refused(self, NoWork, keeper.swap, 0, wrong)
                assert_refused(self, NoNumber, keeper.charge, 0, 0, source.choice(wrong_numbers(10 ** 6)))
                self.assert_stands(keeper, kept)
            self.undo_all(keeper, kept)


class Back(KeeperTest):
    def test_nothing_at_the_beginning(self):
        for size in range(1, 9):
            keeper, kept = Keeper(mixed_job(size, 132), tuple(range(size))), Kept(mixed_job(size, 132), range(size))
            for time in range(3):
                assert_refused(self, Nothing, keeper.back)
                self.assert_stands(keeper, kept)

    def test_another_deed_after_a_back(self):
        for size in range(1, 9):
            job = mixed_job(size, 133)
            keeper, kept = Keeper(job, tuple(range(size))), Kept(job, range(size))
            for number in range(6):
                self.do(keeper, kept, ("put", 2, 0, size - 1, number))
                self.do(keeper, kept, ("swap", 0, size - 1))
                self.do(keeper, kept, ("back",))
                self.do(keeper, kept, ("put", 2, size - 1, 0, 10 ** 6 - number))
                self.do(keeper, kept, ("back",))
                self.do(keeper, kept, ("back",))
                self.do(keeper, kept, ("put", 2, 0, 0, number))
            self.assertEqual(len(kept.undone_by), 6)
            self.undo_all(keeper, kept)
            self.do(keeper, kept, ("put", 2, 0, 0, 5))
            self.undo_all(keeper, kept)

    def test_a_thousand_deeds(self):
        job = mixed_job(8, 134)
        keeper, kept = Keeper(job, tuple(range(8))), Kept(job, range(8))
        for number in range(1000):
            keeper.flow(number % 8, (number + 1) % 8, number % 1000)
            kept.put(0, number % 8, (number + 1) % 8, number % 1000)
        self.assert_stands(keeper, kept)
        for number in range(1000):
            keeper.back()
        self.assertEqual(keeper.job(), job)
        assert_refused(self, Nothing, keeper.back)


class Several(KeeperTest):
    def test_two_keepers_of_one_job_by_turns(self):
        for size in range(1, 9):
            job = mixed_job(size, 135)
            ahead = repr(job)
            laying = tuple(range(size))
            source = random.Random(size)
            pairs = [(Keeper(job, laying), Kept(job, laying)) for time in range(2)]
            for time in range(80):
                keeper, kept = source.choice(pairs)
                self.do(keeper, kept, drawn_deed(kept, source))
                for pair in pairs:
                    self.assert_stands(*pair)
            for pair in pairs:
                self.undo_all(*pair)
            self.assertEqual(repr(job), ahead)

    def test_what_was_told_stays_as_it_was_told(self):
        for size in range(1, 9):
            job = mixed_job(size, 136)
            keeper, kept = Keeper(job, tuple(range(size))), Kept(job, range(size))
            source = random.Random(size)
            told = []
            for time in range(40):
                self.do(keeper, kept, drawn_deed(kept, source))
                told.append((keeper.job(), keeper.laying(), kept.job(), kept.laying()))
            for job_then, laying_then, due_job, due_laying in told:
                self.assertEqual((job_then, laying_then), (due_job, due_laying))

    def test_a_keeper_begun_with_what_another_one_told(self):
        job = mixed_job(8, 137)
        first = Keeper(job, tuple(range(8)))
        first.flow(0, 7, 3)
        second, kept = Keeper(first.job(), first.laying()), Kept(first.job(), first.laying())
        assert_refused(self, Nothing, second.back)
        first.flow(0, 7, 4)
        self.assert_stands(second, kept)
        self.do(second, kept, ("swap", 0, 7))
        self.assertEqual(first.laying(), tuple(range(8)))
        self.assertEqual(first.cost(), written_cost(first.job(), tuple(range(8))))


if __name__ == "__main__":
    unittest.main()
