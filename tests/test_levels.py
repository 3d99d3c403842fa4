"""Promises 9 and 10: purse/levels.py."""

import itertools
import unittest

from purse.levels import gathered, level_for, paid_at

MOST = 10 ** 200


def paid_by_all(purses, level):
    return sum(purse if purse < level else level for purse in purses)


def slow_level(purses, price):
    if sum(purses) < price:
        return None
    level = 0
    while paid_by_all(purses, level) < price:
        level += 1
    return level


class Paid(unittest.TestCase):
    def test_no_purses(self):
        for level in (0, 1, MOST):
            with self.subTest(level):
                self.assertEqual(paid_at([], level), [])
                self.assertEqual(gathered([], level), 0)

    def test_a_level_of_0(self):
        self.assertEqual(paid_at([0, 3, MOST], 0), [0, 0, 0])
        self.assertEqual(gathered([0, 3, MOST], 0), 0)

    def test_at_below_and_above_a_purse(self):
        self.assertEqual(paid_at([5], 4), [4])
        self.assertEqual(paid_at([5], 5), [5])
        self.assertEqual(paid_at([5], 6), [5])
        self.assertEqual(gathered([5], 4), 4)
        self.assertEqual(gathered([5], 5), 5)
        self.assertEqual(gathered([5], 6), 5)

    def test_by_places(self):
        self.assertEqual(paid_at([7, 0, 3, 5, 3], 4), [4, 0, 3, 4, 3])
        self.assertEqual(gathered([7, 0, 3, 5, 3], 4), 14)

    def test_great_numbers(self):
        purses = [MOST, MOST - 1, 0, 1]
        self.assertEqual(paid_at(purses, MOST), purses)
        self.assertEqual(paid_at(purses, MOST - 1), [MOST - 1, MOST - 1, 0, 1])
        self.assertEqual(gathered(purses, MOST), 2 * MOST)
        self.assertEqual(gathered(purses, MOST - 1), 2 * MOST - 1)
        self.assertEqual(gathered([MOST] * 20, MOST), 20 * MOST)

    def test_somewhat_beyond_is_not_refused(self):
        self.assertEqual(paid_at([2 * MOST] * 25, MOST + 1), [MOST + 1] * 25)
        self.assertEqual(gathered([2 * MOST] * 25, MOST + 1), 25 * (MOST + 1))

    def test_every_small_row(self):
        for count in range(4):
            for purses in itertools.product(range(4), repeat=count):
                for level in range(6):
                    with self.subTest(purses=purses, level=level):
                        paid = [sorted([purse, level])[0] for purse in purses]
                        self.assertEqual(paid_at(list(purses), level), paid)
                        self.assertEqual(gathered(list(purses), level), sum(paid))


class Level(unittest.TestCase):
    def check_least(self, purses, price):
        level = level_for(purses, price)
        self.assertIs(type(level), int)
        self.assertGreaterEqual(paid_by_all(purses, level), price)
        self.assertLess(paid_by_all(purses, level - 1), price)

    def test_every_small_row(self):
        for count in range(5):
            for purses in itertools.product(range(5), repeat=count):
                for price in range(1, sum(purses) + 3):
                    level = level_for(list(purses), price)
                    self.assertEqual(level, slow_level(purses, price), (purses, price))

    def test_no_purses(self):
        self.assertIsNone(level_for([], 1))
        self.assertIsNone(level_for([], MOST))

    def test_empty_purses(self):
        self.assertIsNone(level_for([0], 1))
        self.assertIsNone(level_for([0] * 20, 1))
        self.assertEqual(level_for([0, 6, 0], 6), 6)
        self.assertEqual(level_for([0, 6, 6, 0], 6), 3)
        self.assertIsNone(level_for([0, 6, 0], 7))

    def test_the_sum_one_below_and_one_above(self):
        for purses in ([5], [5, 5, 5], [1, 9, 4], [9, 4, 1, 0], [MOST] * 20, [MOST, 1, MOST - 3]):
            total = sum(purses)
            with self.subTest(purses):
                self.assertEqual(level_for(purses, total), max(purses))
                self.assertIsNone(level_for(purses, total + 1))
                self.check_least(purses, total - 1)

    def test_one_below_the_sum(self):
        self.assertEqual(level_for([1, 9, 4], 13), 8)
        self.assertEqual(level_for([5, 5, 5], 14), 5)

    def test_alike_purses(self):
        self.assertEqual(level_for([10, 10], 10), 5)
        self.assertEqual(level_for([10, 10, 10], 30), 10)
        self.assertEqual(level_for([10] * 20, 20), 1)

    def test_unlike_purses_in_any_order(self):
        for purses in itertools.permutations([1, 4, 10]):
            with self.subTest(purses):
                self.assertEqual(level_for(list(purses), 3), 1)
                self.assertEqual(level_for(list(purses), 4), 2)
                self.assertEqual(level_for(list(purses), 9), 4)
                self.assertEqual(level_for(list(purses), 10), 5)
                self.assertEqual(level_for(list(purses), 15), 10)
                self.assertIsNone(level_for(list(purses), 16))

    def test_prices_that_cannot_be_divided_evenly(self):
        self.assertEqual(level_for([10, 10, 10], 1), 1)
        self.assertEqual(level_for([10, 10, 10], 10), 4)
        self.assertEqual(level_for([10, 10, 10], 11), 4)
        self.assertEqual(level_for([10, 10, 10], 12), 4)
        self.assertEqual(level_for([10, 10, 10], 13), 5)
        self.assertEqual(level_for([10, 2, 10], 9), 4)

    def test_great_numbers(self):
        self.assertEqual(level_for([MOST], MOST), MOST)
        self.assertEqual(level_for([MOST] * 3, MOST), (MOST + 2) // 3)
        self.assertEqual(level_for([MOST] * 20, MOST), MOST // 20)
        self.assertEqual(level_for([MOST // 2, MOST // 2], MOST), MOST // 2)
        self.assertIsNone(level_for([MOST // 2, MOST // 2 - 1], MOST))
        self.assertEqual(level_for([1, MOST], MOST), MOST - 1)
        self.assertEqual(level_for([MOST] * 20, 1), 1)

    def test_great_unlike_purses(self):
        purses = [MOST // (place * place + 1) for place in range(20)]
        for price in (1, 2, MOST // 7, MOST // 2 + 1, MOST - 1, MOST):
            with self.subTest(price):
                self.check_least(purses, price)

    def test_somewhat_beyond_is_not_refused(self):
        self.assertEqual(level_for([2 * MOST] * 25, 50 * MOST), 2 * MOST)
        self.assertEqual(level_for([3, 4], 0), 0)
        self.assertEqual(level_for([], 0), 0)


if __name__ == "__main__":
    unittest.main()
