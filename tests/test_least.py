import functools
import itertools
import random
import time
import unittest

from helper import (
    FAR, all_free, assert_laying, assert_shown, assert_told, charged_job, empty_job, even_job, free_places_of,
    free_works_of, gone_through_least, greatest_job, mirrored_job, mixed_job, said_prices, said_table, sample_jobs,
    some_of, spoiled_lists, spoiled_prices, square, written_cost,
)
from spotlay.errors import TooMany
from spotlay.least import least, shows
from spotlay.pairings import pairing

kept_table = functools.lru_cache(maxsize=None)(said_table)


def laid(part, work, place):
    return tuple(place if at == work else thing for at, thing in enumerate(part))


def most_shown(job, part, tree):
    """The greatest number that the tree shows for the part, by the words of the document; None where it shows none."""
    word, one, other = tree
    if word == "cut":
        if not said_prices(kept_table(job, part), one, other):
            return None
        return written_cost(job, part) + sum(one) + sum(other)
    places = free_places_of(part)
    if one not in free_works_of(part) or len(other) != len(places):
        return None
    numbers = [most_shown(job, laid(part, one, place), branch) for place, branch in zip(places, other)]
    return None if None in numbers else min(numbers)


def split_job(size):
    """Each work sends to two, as in a ring; the places are two heaps far from one another: bounds are low here."""
    return (
        square(size, lambda i, j: 999 if i != j and (i - j) % size in (1, size - 1) else 0),
        square(size, lambda p, q: 999 if p % 2 != q % 2 else 0),
        square(size, lambda i, p: 0),
    )


def slow_job():
    """A job of six works whose tree is great: hardly any part is cut before few works are free."""
    flows = ("010110", "101100", "010110", "111010", "101100", "000000")
    ways = ("000111", "001011", "010101", "101010", "110100", "111000")
    return (
        square(6, lambda i, j: 999 * int(flows[i][j])),
        square(6, lambda p, q: 999 * int(ways[p][q])),
        square(6, lambda i, p: 0),
    )


def jobs_of(size):
    jobs = [job for job in sample_jobs() if len(job[0]) == size]
    for seed in range(6):
        jobs += [
            mirrored_job(size, seed),
            mirrored_job(size, seed, charge=0),
            mirrored_job(size, seed, flow=1, way=1, charge=0),
            mixed_job(size, seed, flow=1, way=1, charge=1),
            mixed_job(size, seed, charge=0),
            mixed_job(size, seed, flow=0),
            mixed_job(size, seed, way=0),
            mixed_job(size, seed, charge=9),
            mixed_job(size, seed, flow=9, way=9, charge=99),
        ]
    jobs += [even_job(size, 999, 0, 0), even_job(size, 0, 999, 10 ** 6), even_job(size, 999, 999, 0), split_job(size)]
    jobs.append(charged_job(square(size, lambda i, p: 10 ** 6 if i == p else 0)))
    return jobs


def lists_of(tree):
    """All lists of a tree."""
    word, one, other = tree
    if word == "cut":
        return [one, other]
    return [other] + [found for branch in other for found in lists_of(branch)]


class Least(unittest.TestCase):
    def assert_tree(self, tree):
        """The tree is of the told kinds alone."""
        self.assertIs(type(tree), tuple)
        self.assertEqual(len(tree), 3)
        word, one, other = tree
        self.assertIs(type(word), str)
        self.assertIn(word, ("cut", "lay"))
        self.assertIs(type(other), list)
        if word == "cut":
            self.assertIs(type(one), list)
            self.assertEqual({type(price) for price in one + other} - {int}, set())
        else:
            self.assertIs(type(one), int)
            for branch in other:
                self.assert_tree(branch)

    def assert_least(self, job, told, number):
        self.assertIs(type(told), tuple)
        self.assertEqual(len(told), 3)
        total, laying, tree = told
        self.assertEqual(total, number, job)
        assert_laying(self, job, laying, total)
        self.assert_tree(tree)
        # That it shows no more than the least cost is a check of this check.
        self.assertEqual(most_shown(job, all_free(job), tree), number)
        assert_told(self, True, shows, job, number, tree)
        assert_told(self, False, shows, job, number + 1, tree)
        lists = lists_of(tree)
        self.assertEqual(len({id(one) for one in lists}), len(lists))

    def test_by_hand(self):
        job = (((0, 3), (5, 0)), ((0, 7), (11, 0)), ((1, 2), (4, 8)))
        self.assertEqual(least(job)[:2], (74, (1, 0)))
        self.assertEqual(least(charged_job(((9, 1, 9), (9, 9, 2), (3, 9, 9))))[:2], (6, (1, 2, 0)))
        self.assertEqual(least((((0,),), ((0,),), ((7,),)))[:2], (7, (0,)))

    def test_against_all_layings(self):
        branched = 0
        for size in range(1, 7):
            for job in jobs_of(size):
                ahead = repr(job)
                told = least(job)
                branched += told[2][0] == "lay"
                self.assert_least(job, told, gone_through_least(job))
                self.assertEqual(repr(job), ahead)
        self.assertTrue(branched > 20)

    def test_many_jobs_of_three_and_four_works(self):
        source = random.Random(60)
        for seed in range(150):
            most = source.choice((1, 2, 5, 999))
            charge = source.choice((0, 1, 20, 10 ** 6))
            job = mixed_job(source.choice((3, 4)), seed, flow=most, way=most, charge=charge)
            self.assert_least(job, least(job), gone_through_least(job))

    def test_at_the_greatest_numbers(self):
        for size in range(1, 7):
            total = size * (size - 1) * 999 * 999 + size * 10 ** 6
            self.assert_least(greatest_job(size), least(greatest_job(size)), total)
            self.assert_least(empty_job(size), least(empty_job(size)), 0)

    def test_told_lists_are_the_askers_own(self):
        jobs = [slow_job(), split_job(5), mixed_job(6, 16, charge=0), mirrored_job(4, 61, charge=0), greatest_job(6)]
        for job in jobs + [empty_job(1), mixed_job(2, 62)]:
            number = gone_through_least(job)
            first, second = least(job), least(job)
            kept = repr(second)
            every = lists_of(first[2]) + lists_of(second[2])
            self.assertEqual(len({id(one) for one in every}), len(every))
            for one in lists_of(first[2]):
                one.append(FAR)
            self.assertEqual(sum(one.count(FAR) for one in every), len(every) // 2)
            self.assertEqual([one.count(FAR) for one in every[:len(every) // 2]], [1] * (len(every) // 2))
            self.assertEqual(repr(second), kept)
            self.assert_least(job, least(job), number)
            for one in every[:len(every) // 2]:
                one.clear()
            self.assertEqual(repr(second), kept)
            self.assert_least(job, second, number)
            self.assert_least(job, least(job), number)

    def test_too_many_works(self):
        for size in (7, 8):
            jobs = [empty_job(size), greatest_job(size), mixed_job(size, 63), mixed_job(size, 64, flow=0)]
            for job in jobs:
                ahead = repr(job)
                for again in range(2):
                    with self.assertRaises(TooMany) as caught:
                        least(job)
                    self.assertIs(type(caught.exception), TooMany)
                self.assertEqual(repr(job), ahead)

    def test_the_slowest_jobs_of_six_works(self):
        for job in (slow_job(), split_job(6), mixed_job(6, 16, charge=0), mixed_job(6, 65, flow=1, way=1, charge=0)):
            begun = time.process_time()
            told = least(job)
            self.assertLess(time.process_time() - begun, 3)
            self.assert_least(job, told, gone_through_least(job))


def good_cut(job, part):
    left, right = pairing(kept_table(job, part))[2:]
    return ("cut", left, right)


def low_cut(job, part, source):
    """A cut by prices, some of which are lower than they need be."""
    word, left, right = good_cut(job, part)
    return (word, [price - source.choice((0, 0, 1, 10 ** 7)) for price in left], right)


def some_tree(job, part, source, depth):
    """A tree that shows some number: works laid in any order, cut here and there, at the latest at a depth."""
    works = free_works_of(part)
    if depth == 0 or not works or source.random() < 0.2:
        return low_cut(job, part, source) if source.random() < 0.2 else good_cut(job, part)
    work = source.choice(works)
    branches = [some_tree(job, laid(part, work, place), source, depth - 1) for place in free_places_of(part)]
    return ("lay", work, branches)


def path_tree(job, part, source, end):
    """A tree of one path down to where all works are laid, with the end there, and cuts beside it."""
    works = free_works_of(part)
    if not works:
        return end
    work, places = source.choice(works), free_places_of(part)
    down = source.choice(places)
    branches = []
    for place in places:
        there = laid(part, work, place)
        branches.append(path_tree(job, there, source, end) if place == down else good_cut(job, there))
    return ("lay", work, branches)


def whole_tree(job):
    """The tree that lays all works everywhere."""
    tree = ("cut", [], [])
    for work in reversed(range(len(job[0]))):
        tree = ("lay", work, [tree] * (len(job[0]) - work))
    return tree


def spoiled_tops(tree, size):
    """Trees near to this one, in what it says at its top."""
    word, one, other = tree
    end = ("cut", [], [])
    if word == "cut":
        yield from [(word, prices, other) for prices in spoiled_prices(one)]
        yield from [(word, one, prices) for prices in spoiled_prices(other)]
        yield (word, other, one)
        yield (word, one + [0], other + [0])
        yield from [("lay", work, []) for work in (-1, 0, size - 1, size)]
        yield from [("lay", work, [end]) for work in range(-1, size + 1)]
    else:
        works = list(range(-size - 1, size + 2)) + [FAR, -FAR]
        yield from [(word, work, other) for work in works if work != one]
        yield from [(word, one, branches) for branches in spoiled_lists(other, [other[0], end])]
        yield ("cut", [], [])
        yield ("cut", [-FAR] * size, [0] * size)


def spoiled(tree, size):
    """Trees near to this one, in what it says anywhere."""
    yield from spoiled_tops(tree, size)
    word, one, other = tree
    if word == "lay":
        for at, branch in enumerate(other):
            for turned in spoiled(branch, size):
                yield (word, one, other[:at] + [turned] + other[at + 1:])


@functools.lru_cache(maxsize=None)
def shown_at_once(job):
    """What the best prices show at once."""
    return pairing(kept_table(job, all_free(job)))[0]


class Shows(unittest.TestCase):
    def assert_words(self, job, tree, answers=None):
        """Told as the words say, of the greatest number that the tree shows, and of others."""
        most = most_shown(job, all_free(job), tree)
        assert_shown(self, shows, job, most, tree, answers, (0, 1, -1, shown_at_once(job)))

    def test_by_hand(self):
        job = (((0, 3), (5, 0)), ((0, 7), (11, 0)), ((1, 2), (4, 8)))
        # The bound table is ((22, 35), (39, 63)).
        assert_told(self, True, shows, job, 74, ("cut", [22, 39], [0, 13]))
        assert_told(self, False, shows, job, 75, ("cut", [22, 39], [0, 13]))
        assert_told(self, False, shows, job, 74, ("cut", [22, 39], [0, 14]))
        assert_told(self, False, shows, job, 74, ("cut", [22, 38], [0, 13]))
        assert_told(self, True, shows, job, 73, ("cut", [22, 38], [0, 13]))
        ends = [("cut", [84], [0]), ("cut", [0], [72])]
        assert_told(self, True, shows, job, 74, ("lay", 0, ends))
        assert_told(self, False, shows, job, 75, ("lay", 0, ends))
        assert_told(self, False, shows, job, 74, ("lay", 0, ends[::-1]))
        assert_told(self, False, shows, job, 74, ("lay", 1, ends))
        assert_told(self, False, shows, job, 74, ("lay", -2, ends))
        assert_told(self, False, shows, job, 74, ("lay", 0, ends + ends))

    def test_trees_of_each_size(self):
        for size in range(1, 9):
            for job in (mixed_job(size, 70), mirrored_job(size, 71, flow=3, way=3, charge=4), greatest_job(size)):
                source = random.Random(size)
                for depth in (0, 1, 2, 2):
                    self.assert_words(job, some_tree(job, all_free(job), source, depth))

    def test_spoiled_trees_of_small_jobs(self):
        answers = set()
        for size in (1, 2, 3, 4):
            for job in (mixed_job(size, 72), mixed_job(size, 73, flow=2, way=2, charge=3), empty_job(size)):
                source = random.Random(size)
                for depth in (0, 1, 2, size):
                    tree = some_tree(job, all_free(job), source, depth)
                    for turned in some_of(spoiled(tree, size), source, 250):
                        self.assert_words(job, turned, answers)
        self.assertEqual(answers, set(itertools.product((1, 2, 3, 4), (True, False))))

    def test_spoiled_trees_of_great_jobs(self):
        answers = set()
        for size in (5, 6, 7, 8):
            for job in (mixed_job(size, 74), mirrored_job(size, 75, flow=3, way=3, charge=0)):
                source = random.Random(size)
                for depth in (0, 1, 2 if size < 7 else 1):
                    tree = some_tree(job, all_free(job), source, depth)
                    for turned in some_of(spoiled(tree, size), source, 50):
                        self.assert_words(job, turned, answers)
        self.assertEqual(answers, set(itertools.product((5, 6, 7, 8), (True, False))))

    def test_spoiled_trees_that_least_tells(self):
        for job in (mixed_job(6, 16, charge=0), split_job(4), mirrored_job(5, 76, charge=0), greatest_job(6)):
            number, laying, tree = least(job)
            source = random.Random(number)
            for turned in some_of(spoiled(tree, len(job[0])), source, 80):
                self.assert_words(job, turned)

    def test_each_branch_counts(self):
        for size in (2, 3, 5, 8):
            job = mixed_job(size, 77, flow=9, way=9)
            for work in range(size):
                parts = [laid(all_free(job), work, place) for place in range(size)]
                branches = [good_cut(job, part) for part in parts]
                most = most_shown(job, all_free(job), ("lay", work, branches))
                for at, part in enumerate(parts):
                    word, left, right = branches[at]
                    for change in (1, -FAR):
                        turned = list(branches)
                        turned[at] = (word, [left[0] + change] + left[1:], right)
                        assert_told(self, False, shows, job, most, ("lay", work, turned))
                assert_told(self, True, shows, job, most, ("lay", work, branches))

    def test_down_to_where_all_works_are_laid(self):
        end = ("cut", [], [])
        for size in range(1, 9):
            wrong_ends = [("cut", [0], []), ("cut", [], [0]), ("cut", [0], [0]), ("cut", [-FAR], [-FAR])]
            wrong_ends += [("lay", work, []) for work in (-size, -1, 0, size - 1, size, FAR, -FAR)]
            wrong_ends += [("lay", work, [end]) for work in (-1, 0, size - 1, size)]
            for job in (mixed_job(size, 78), greatest_job(size), empty_job(size)):
                source = random.Random(size)
                self.assert_words(job, path_tree(job, all_free(job), source, end))
                for wrong in wrong_ends:
                    tree = path_tree(job, all_free(job), source, wrong)
                    for number in (-FAR, 0, 10 ** 6):
                        assert_told(self, False, shows, job, number, tree)

    def test_ten_trees_within_one_another(self):
        for size in range(1, 9):
            job = mixed_job(size, 79)
            source = random.Random(size)
            end = ("cut", [], [])
            for level in range(9 - size):
                end = ("lay", source.randrange(size), [end] * source.choice((1, 1, size)))
                for number in (-FAR, -1, 0):
                    assert_told(self, False, shows, job, number, path_tree(job, all_free(job), source, end))

    def test_a_work_that_is_laid_already(self):
        for size in (2, 3, 6, 8):
            job = greatest_job(size)
            low = ("cut", [-FAR] * (size - 1), [0] * (size - 1))
            lower = ("cut", [-FAR] * (size - 2), [0] * (size - 2))
            for work in range(size):
                for other in list(range(-size, size + 1)) + [FAR, -FAR]:
                    deep = ("lay", other, [lower] * (size - 1))
                    due = 0 <= other < size and other != work
                    for at in (0, size - 1):
                        tree = ("lay", work, [deep if place == at else low for place in range(size)])
                        assert_told(self, due, shows, job, -FAR * size, tree)

    def test_the_whole_tree_shows_just_the_least(self):
        jobs = [mixed_job(size, 80) for size in range(1, 8)] + [split_job(6), greatest_job(7), empty_job(7)]
        for job in jobs:
            number = gone_through_least(job)
            assert_told(self, True, shows, job, number, whole_tree(job))
            assert_told(self, False, shows, job, number + 1, whole_tree(job))

    def test_the_whole_tree_of_eight_works(self):
        job = mixed_job(8, 81, flow=9, way=9, charge=20)
        number = gone_through_least(job)
        assert_told(self, True, shows, job, number, whole_tree(job))
        assert_told(self, False, shows, job, number + 1, whole_tree(job))
        assert_told(self, False, shows, job, FAR, whole_tree(job))

    def test_numbers_of_sixty_figures(self):
        for size in (1, 4, 8):
            job = mixed_job(size, 82)
            self.assert_words(job, ("cut", [-FAR] * size, [-FAR] * size))
            self.assert_words(job, ("cut", [FAR] * size, [-FAR] * size))
            self.assert_words(job, ("cut", [FAR] * size, [FAR] * size))
            assert_told(self, False, shows, job, -FAR, ("cut", [-FAR] * size, [-1] * size))
            assert_told(self, True, shows, job, size * -FAR - size, ("cut", [-FAR] * size, [-1] * size))
            assert_told(self, False, shows, job, -FAR, ("lay", FAR, []))

    def test_a_told_tree_may_be_asked_again(self):
        job = split_job(6)
        number, laying, tree = least(job)
        for again in range(3):
            assert_told(self, True, shows, job, number, tree)
            assert_told(self, False, shows, job, number + 1, tree)


if __name__ == "__main__":
    unittest.main()
