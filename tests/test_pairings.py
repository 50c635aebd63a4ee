import itertools
import random
import unittest

from helper import FAR, assert_told, gone_through_sum, put, said_prices, sample_tables, square
from spotlay.pairings import are_prices, pairing

SIZES = range(9)
MOST = 10 ** 12


class Pairing(unittest.TestCase):
    def assert_good(self, table, told):
        """All but that the sum is the least one: that the prices show."""
        size = len(table)
        self.assertIs(type(told), tuple)
        self.assertEqual(len(told), 4)
        total, columns, left, right = told
        self.assertIs(type(total), int)
        self.assertIs(type(columns), tuple)
        self.assertEqual([type(column) for column in columns], [int] * size)
        self.assertEqual(sorted(columns), list(range(size)))
        self.assertEqual(sum(table[row][column] for row, column in enumerate(columns)), total)
        for prices in (left, right):
            self.assertIs(type(prices), list)
            self.assertEqual([type(price) for price in prices], [int] * size)
        self.assertTrue(said_prices(table, left, right), table)
        self.assertEqual(sum(left) + sum(right), total, table)

    def test_by_hand(self):
        self.assertEqual(pairing(((7,),))[:2], (7, (0,)))
        self.assertEqual(pairing(((-7,),))[:2], (-7, (0,)))
        self.assertEqual(pairing(((1, 2), (1, 4)))[:2], (3, (1, 0)))
        self.assertEqual(pairing(((1, 2, 9), (1, 9, 9), (9, 1, 5)))[:2], (8, (1, 0, 2)))
        self.assertEqual(pairing(((0, 9, 9), (9, 9, 0), (9, 0, 9)))[:2], (0, (0, 2, 1)))

    def test_the_table_without_rows(self):
        for time in range(2):
            told = pairing(())
            self.assertEqual(told, (0, (), [], []))
            self.assert_good((), told)
            self.assertIsNot(told[2], told[3])
            told[2].append(1)
            self.assertEqual(told[3], [])

    def test_the_sum_is_the_least_one_and_the_prices_show_it(self):
        for size in SIZES:
            for table in sample_tables(size):
                ahead = repr(table)
                told = pairing(table)
                self.assert_good(table, told)
                self.assertEqual(told[0], gone_through_sum(table), table)
                self.assertEqual(repr(table), ahead)

    def test_all_tables_of_two_rows_of_few_numbers(self):
        for numbers in itertools.product((-2, -1, 0, 1, 3), repeat=4):
            table = (numbers[:2], numbers[2:])
            told = pairing(table)
            self.assert_good(table, told)
            self.assertEqual(told[0], gone_through_sum(table))

    def test_many_tables(self):
        source = random.Random(30)
        for time in range(1500):
            most = source.choice((1, 2, 5, 100, MOST))
            size = source.randint(3, 5)
            table = square(size, lambda i, p: source.randint(-most, most))
            told = pairing(table)
            self.assert_good(table, told)
            self.assertEqual(told[0], gone_through_sum(table), table)

    def test_many_tables_of_eight_rows(self):
        # Here the prices alone show that the sum is the least one.
        source = random.Random(31)
        for time in range(300):
            most = source.choice((1, 2, 5, 100, MOST))
            table = square(8, lambda i, p: source.randint(-most, most))
            self.assert_good(table, pairing(table))

    def test_at_both_bounds(self):
        for size in SIZES:
            self.assertEqual(pairing(square(size, lambda i, p: MOST))[0], size * MOST)
            self.assertEqual(pairing(square(size, lambda i, p: -MOST))[0], -size * MOST)
            alone = square(size, lambda i, p: MOST if p == 0 else -MOST)
            self.assertEqual(pairing(alone)[0], 0 if size == 0 else (2 - size) * MOST)

    def test_told_lists_are_the_askers_own(self):
        for size in SIZES:
            for table in sample_tables(size):
                ahead = repr(table)
                first = pairing(table)
                second = pairing(table)
                kept = repr(second)
                self.assertIsNot(first[2], first[3])
                first[2].append(FAR)
                self.assertEqual(len(first[3]), size)
                first[3].insert(0, None)
                self.assertEqual(repr(second), kept)
                self.assert_good(table, pairing(table))
                first[2].clear()
                first[3].clear()
                self.assertEqual(repr(second), kept)
                self.assert_good(table, pairing(table))
                self.assertEqual(repr(table), ahead)


def longer_and_shorter(prices):
    for at in range(len(prices)):
        yield prices[:at] + prices[at + 1:]
    for price in (0, -1, 1, -FAR, FAR):
        yield prices + [price]
        yield [price] + prices


class ArePrices(unittest.TestCase):
    def assert_words(self, table, left, right, answers=None):
        """Told as the words say, of the number that the prices together are, and of others."""
        together = sum(left) + sum(right)
        fits = said_prices(table, left, right)
        for number in (together - 1, together, together + 1, together - MOST, together + MOST, 0, FAR, -FAR):
            due = fits and together >= number
            assert_told(self, due, are_prices, table, number, left, right)
            if answers is not None:
                answers.add(due)

    def test_by_hand(self):
        table = ((1, 2), (1, 4))
        assert_told(self, True, are_prices, table, 3, [1, 1], [0, 1])
        assert_told(self, False, are_prices, table, 4, [1, 1], [0, 1])
        assert_told(self, True, are_prices, table, 2, [1, 1], [0, 1])
        assert_told(self, False, are_prices, table, 3, [1, 2], [0, 1])
        assert_told(self, False, are_prices, table, 3, [1, 1], [1, 1])
        assert_told(self, True, are_prices, ((-5,),), -5, [-3], [-2])
        assert_told(self, False, are_prices, ((-5,),), -4, [-3], [-2])

    def test_true_of_what_pairing_tells(self):
        for size in SIZES:
            for table in sample_tables(size):
                total, columns, left, right = pairing(table)
                assert_told(self, True, are_prices, table, total, left, right)
                assert_told(self, False, are_prices, table, total + 1, left, right)
                self.assert_words(table, left, right)

    def test_each_price_one_more_and_one_less(self):
        answers = set()
        for size in SIZES:
            for table in sample_tables(size):
                total, columns, left, right = pairing(table)
                for at in range(size):
                    for change in (1, -1, FAR, -FAR):
                        changed = left[:at] + [left[at] + change] + left[at + 1:]
                        self.assert_words(table, changed, right, answers)
                        # A pair's prices are at the number: one more is too much.
                        if change > 0:
                            assert_told(self, False, are_prices, table, -FAR, changed, right)
                        changed = right[:at] + [right[at] + change] + right[at + 1:]
                        self.assert_words(table, left, changed, answers)
                        if change > 0:
                            assert_told(self, False, are_prices, table, -FAR, left, changed)
        self.assertEqual(answers, {True, False})

    def test_each_cell_counts(self):
        for size in SIZES:
            table = square(size, lambda i, p: 0)
            for row, column in itertools.product(range(size), repeat=2):
                lower = put(table, (row, column), -1)
                assert_told(self, False, are_prices, lower, -FAR, [0] * size, [0] * size)
                assert_told(self, True, are_prices, put(table, (row, column), 1), 0, [0] * size, [0] * size)
                left = [-(at == row) for at in range(size)]
                right = [-(at == column) for at in range(size)]
                assert_told(self, True, are_prices, lower, -1, left, [0] * size)
                assert_told(self, False, are_prices, lower, 0, left, [0] * size)
                assert_told(self, True, are_prices, lower, -1, [0] * size, right)

    def test_raised_on_one_side_and_lowered_on_the_other(self):
        for size in SIZES:
            for table in sample_tables(size):
                total, columns, left, right = pairing(table)
                for change in (1, -1, MOST, FAR // 100, -FAR // 100):
                    one, other = [price + change for price in left], [price - change for price in right]
                    assert_told(self, True, are_prices, table, total, one, other)
                    assert_told(self, False, are_prices, table, total + 1, one, other)

    def test_lists_of_another_length(self):
        for size in SIZES:
            for table in sample_tables(size):
                total, columns, left, right = pairing(table)
                for number in (total, total - 1, -FAR, FAR, 0):
                    for wrong in longer_and_shorter(left):
                        assert_told(self, False, are_prices, table, number, wrong, right)
                        assert_told(self, False, are_prices, table, number, wrong, wrong)
                    for wrong in longer_and_shorter(right):
                        assert_told(self, False, are_prices, table, number, left, wrong)
                    if size:
                        assert_told(self, False, are_prices, table, number, [], [])
                        assert_told(self, False, are_prices, table, number, left + right, [])
                        assert_told(self, False, are_prices, table, number, [], right)
                        assert_told(self, False, are_prices, table, number, left, [])
                    assert_told(self, False, are_prices, table, number, left + [0], right + [0])
                    assert_told(self, False, are_prices, table, number, [-FAR] * 50, [-FAR] * 50)

    def test_the_lists_exchanged(self):
        answers = set()
        for size in SIZES:
            for table in sample_tables(size):
                total, columns, left, right = pairing(table)
                self.assert_words(table, right, left, answers)
                self.assert_words(table, left, left, answers)
                self.assert_words(table, left[::-1], right, answers)
                self.assert_words(table, left, right[::-1], answers)
        self.assertEqual(answers, {True, False})
        assert_told(self, True, are_prices, ((0, 5), (0, 5)), 5, [0, 0], [0, 5])
        assert_told(self, False, are_prices, ((0, 5), (0, 5)), 5, [0, 5], [0, 0])

    def test_the_table_without_rows(self):
        for number in (0, -1, -7, -MOST, -FAR):
            assert_told(self, True, are_prices, (), number, [], [])
        for number in (1, 7, MOST, FAR):
            assert_told(self, False, are_prices, (), number, [], [])
        for wrong in ([0], [-1], [1], [FAR], [-FAR], [0, 0], [0] * 8):
            for number in (-FAR, -1, 0, 1, FAR):
                assert_told(self, False, are_prices, (), number, wrong, [])
                assert_told(self, False, are_prices, (), number, [], wrong)
                assert_told(self, False, are_prices, (), number, wrong, wrong)

    def test_numbers_of_sixty_figures(self):
        for size in range(1, 9):
            for table in sample_tables(size):
                self.assert_words(table, [-FAR] * size, [-FAR] * size)
                self.assert_words(table, [-FAR] * size, [FAR - MOST] * size)
                self.assert_words(table, [FAR] * size, [-FAR - MOST] * size)
                self.assert_words(table, [FAR] * size, [FAR] * size)
                assert_told(self, True, are_prices, table, -size * MOST, [FAR] * size, [-FAR - MOST] * size)
                assert_told(self, False, are_prices, table, -FAR, [FAR] * size, [FAR] * size)

    def test_any_lists_as_the_words_say(self):
        answers = set()
        source = random.Random(32)
        for time in range(2000):
            size = source.randint(0, 4)
            table = square(size, lambda i, p: source.randint(-2, 4))
            left = [source.randint(-2, 2) for price in range(source.choice((size, size, size, size + 1)))]
            right = [source.randint(-2, 2) for price in range(source.choice((size, size, size, 1)))]
            self.assert_words(table, left, right, answers)
        self.assertEqual(answers, {True, False})


if __name__ == "__main__":
    unittest.main()
