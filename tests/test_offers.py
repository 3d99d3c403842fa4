"""Promises 11 to 13: purse/offers.py."""

import itertools
import unittest

from purse.offers import next_of, offers_of
from samples import MOST, coin_purses, equal_purses, grains_for, in_coins, slow_choose, slow_offers, some_purses

GREAT = 10 ** 200


class Offers(unittest.TestCase):
    costs = [30, 50, 20, 10]
    wishes = [[0, 1], [2], [0, 1, 2]]

    def test_written_out(self):
        # 3 voters and 4 works: a coin is 6 ** 5 = 7776 grains.
        self.assertEqual(
            offers_of([259200] * 3, self.costs, self.wishes, []), [116640, 194400, 77760, None]
        )
        self.assertEqual(offers_of([20], [7, 21, 20], [[0, 1, 2]], []), [7, None, 20])
        self.assertEqual(offers_of([12, 20], [6], [[0], [0]], []), [12])
        self.assertEqual(offers_of([10, 20], [6], [[0], [0]], []), [14])

    def test_a_done_work_has_none(self):
        for count in range(5):
            for done in itertools.permutations(range(4), count):
                offers = [116640, 194400, 77760, None]
                for work in done:
                    offers[work] = None
                with self.subTest(done):
                    self.assertEqual(offers_of([259200] * 3, self.costs, self.wishes, list(done)), offers)

    def test_a_work_that_nobody_wants_has_none(self):
        self.assertEqual(offers_of([MOST], [1], [[]], []), [None])
        self.assertEqual(offers_of(coin_purses([MOST] * 20, [1, 1], [[1]] * 20), [1, 1], [[1]] * 20, [])[0], None)

    def test_wanters_with_less_than_the_price(self):
        # One voter's grain is a coin.
        self.assertEqual(offers_of([5], [6], [[0]], []), [None])
        self.assertEqual(offers_of([6], [6], [[0]], []), [6])
        # 3 voters and 1 work: the price is 6 * 36 = 216, the others' purses do not count.
        wishes = [[0], [], [0]]
        self.assertEqual(offers_of([108, 600, 108], [6], wishes, []), [108])
        self.assertEqual(offers_of([108, 600, 102], [6], wishes, []), [None])
        self.assertEqual(offers_of([108, 600, 107], [6], wishes, []), [None])
        self.assertEqual(offers_of([0, 600, 216], [6], wishes, []), [216])
        self.assertEqual(offers_of([0, 600, 215], [6], wishes, []), [None])

    def test_one_grain_less_in_the_greatest_town(self):
        costs = [MOST] * 12
        wishes = [list(range(12))] * 20
        purses = equal_purses(MOST, costs, wishes)
        self.assertEqual(offers_of(purses, costs, wishes, []), [purses[0]] * 12)
        purses[19] -= 1
        self.assertEqual(offers_of(purses, costs, wishes, []), [None] * 12)

    def test_empty_purses(self):
        self.assertEqual(offers_of([0], [1], [[0]], []), [None])
        self.assertEqual(offers_of([0] * 20, [1] * 12, [list(range(12))] * 20, []), [None] * 12)

    def test_no_works(self):
        self.assertEqual(offers_of([7], [], [[]], []), [])
        self.assertEqual(offers_of([0] * 20, [], [[]] * 20, []), [])

    def test_one_voter_and_twelve_works(self):
        costs = list(range(1, 13))
        self.assertEqual(offers_of([9], costs, [list(range(12))], []), [1, 2, 3, 4, 5, 6, 7, 8, 9, None, None, None])
        self.assertEqual(offers_of([9], costs, [[3, 11]], []), [None] * 3 + [4] + [None] * 8)
        self.assertEqual(offers_of([9], costs, [list(range(12))], list(range(11, -1, -1))), [None] * 12)

    def test_twenty_voters_and_twelve_works(self):
        costs = [20 * (work + 1) for work in range(12)]
        wishes = [list(range(12))] * 20
        grains = 232792560 ** 13
        self.assertEqual(
            offers_of([12 * grains] * 20, costs, wishes, []), [(work + 1) * grains for work in range(12)]
        )
        self.assertEqual(offers_of([12 * grains] * 20, costs, wishes, list(range(12))), [None] * 12)
        self.assertEqual(
            offers_of([12 * grains] * 20, costs, wishes, [11, 0, 5]),
            [None if work in (0, 5, 11) else (work + 1) * grains for work in range(12)],
        )

    def test_the_grains_hang_on_all_works_done_or_not(self):
        # 2 voters and 2 works: 8 grains a coin, also where one of the works is done.
        self.assertEqual(offers_of([16, 16], [3, 2], [[0, 1], [0, 1]], [0]), [None, 8])

    def test_as_reckoned_in_fractions_with_none_some_and_all_done(self):
        for purses, costs, wishes in some_purses(120, seed=12):
            coins = [in_coins(purse, costs, wishes) for purse in purses]
            steps = slow_choose(coins, costs, wishes)
            for count in range(len(steps) + 1):
                done = [work for work, level, paid in steps[:count]][::-1]
                left = [
                    coin - sum(paid[voter] for work, level, paid in steps[:count])
                    for voter, coin in enumerate(coins)
                ]
                grains = grains_for(costs, wishes)
                offers = [
                    None if offer is None else offer * grains for offer in slow_offers(left, costs, wishes, done)
                ]
                told = offers_of([int(coin * grains) for coin in left], costs, wishes, done)
                self.assertEqual(told, offers, (purses, costs, wishes, done))
                self.assertLessEqual({type(offer) for offer in told}, {int, type(None)})


class Next(unittest.TestCase):
    def test_no_offers(self):
        self.assertIsNone(next_of([]))

    def test_all_none(self):
        for count in range(1, 13):
            with self.subTest(count):
                self.assertIsNone(next_of([None] * count))

    def test_the_least(self):
        self.assertEqual(next_of([5, 3, 4]), 1)
        self.assertEqual(next_of([5, 6, 4]), 2)
        self.assertEqual(next_of([3, 6, 4]), 0)
        self.assertEqual(next_of([None, 6, None, 4, None]), 3)
        self.assertEqual(next_of([9]), 0)

    def test_of_alike_ones_the_least_number(self):
        self.assertEqual(next_of([4, 4]), 0)
        self.assertEqual(next_of([None, 4, 4]), 1)
        self.assertEqual(next_of([9, 4, 5, 4]), 1)
        self.assertEqual(next_of([7] * 12), 0)

    def test_the_least_at_every_place(self):
        for place in range(12):
            offers = list(range(100, 112))
            offers[place] = 1
            with self.subTest(place):
                self.assertEqual(next_of(offers), place)
                self.assertEqual(next_of([None] * place + [3] + [None] * (11 - place)), place)

    def test_0_and_great_numbers(self):
        self.assertEqual(next_of([0]), 0)
        self.assertEqual(next_of([None, 0]), 1)
        self.assertEqual(next_of([1, 0, None]), 1)
        self.assertEqual(next_of([0, 0]), 0)
        self.assertEqual(next_of([GREAT]), 0)
        self.assertEqual(next_of([GREAT, GREAT]), 0)
        self.assertEqual(next_of([GREAT, GREAT - 1]), 1)
        self.assertEqual(next_of([None, GREAT, 0]), 2)
        self.assertEqual(next_of([0, GREAT, None]), 0)

    def test_every_short_list(self):
        for count in range(5):
            for offers in itertools.product([None, 0, 1, 2, GREAT], repeat=count):
                ranks = sorted((offer, work) for work, offer in enumerate(offers) if offer is not None)
                best = ranks[0][1] if ranks else None
                self.assertEqual(next_of(list(offers)), best, offers)


if __name__ == "__main__":
    unittest.main()
