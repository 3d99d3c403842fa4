"""Promises 4 and 5: purse/grains.py."""

import unittest

from purse.grains import equal_purse, grains_of, together

TOGETHER = [
    1, 1, 2, 6, 12, 60, 60, 420, 840, 2520, 2520, 27720, 27720, 360360, 360360, 360360,
    720720, 12252240, 12252240, 232792560, 232792560,
]
COINS = (0, 1, 2, 7, 100, 999999999999, 10 ** 12)


class Together(unittest.TestCase):
    def test_every_number_from_0_to_20(self):
        self.assertEqual([together(n) for n in range(21)], TOGETHER)

    def test_is_the_least_that_each_divides(self):
        for n in range(13):
            least = 1
            while any(least % number for number in range(1, n + 1)):
                least += 1
            with self.subTest(n):
                self.assertEqual(together(n), least)

    def test_somewhat_beyond_20_is_not_refused(self):
        self.assertEqual(together(21), 232792560)
        self.assertEqual(together(24), 5354228880)


class Grains(unittest.TestCase):
    def test_written_out(self):
        self.assertEqual(grains_of(1, 0), 1)
        self.assertEqual(grains_of(1, 12), 1)
        self.assertEqual(grains_of(2, 0), 2)
        self.assertEqual(grains_of(2, 12), 8192)
        self.assertEqual(grains_of(3, 1), 36)
        self.assertEqual(grains_of(4, 2), 1728)
        self.assertEqual(grains_of(20, 0), 232792560)
        self.assertEqual(grains_of(20, 12), 232792560 ** 13)

    def test_together_stands_works_and_one_times_as_a_factor(self):
        for voters in range(1, 21):
            for works in range(13):
                with self.subTest(voters=voters, works=works):
                    self.assertEqual(grains_of(voters, works), TOGETHER[voters] ** (works + 1))

    def test_somewhat_beyond_is_not_refused(self):
        self.assertEqual(grains_of(21, 14), 232792560 ** 15)


class EqualPurse(unittest.TestCase):
    def test_written_out(self):
        self.assertEqual(equal_purse(0, 1, 0), 0)
        self.assertEqual(equal_purse(1, 1, 0), 1)
        self.assertEqual(equal_purse(10 ** 12, 1, 12), 10 ** 12)
        self.assertEqual(equal_purse(1, 2, 0), 1)
        self.assertEqual(equal_purse(10, 3, 1), 120)
        self.assertEqual(equal_purse(1, 20, 0), 11639628)
        self.assertEqual(equal_purse(10 ** 12, 20, 12), 10 ** 12 * 232792560 ** 13 // 20)

    def test_times_the_voters_is_all_coins_in_grains(self):
        for voters in range(1, 21):
            for works in range(13):
                for coins in COINS:
                    with self.subTest(voters=voters, works=works, coins=coins):
                        purse = equal_purse(coins, voters, works)
                        self.assertIs(type(purse), int)
                        self.assertEqual(purse * voters, coins * TOGETHER[voters] ** (works + 1))


if __name__ == "__main__":
    unittest.main()
