"""Promises 14 and 15: purse/choosing.py."""

import unittest

from purse.choosing import bought_by, choose, left_of, works_of
from purse.towns import purses_of
from samples import MOST, coin_purses, equal_purses, grains_for, slow_steps, small_towns, some_purses

# A town with its steps written out: 3 voters and 3 works, so that a coin is 6 ** 4 = 1296 grains.
COSTS = [30, 50, 20]
WISHES = [[0, 1], [2], [0, 1, 2]]
PURSES = [43200, 43200, 43200]
STEPS = [(2, 12960, [0, 12960, 12960]), (0, 19440, [19440, 0, 19440])]


class Choosing(unittest.TestCase):
    def check(self, purses, costs, wishes):
        steps = choose(purses, costs, wishes)
        self.assertEqual(steps, slow_steps(purses, costs, wishes), (purses, costs, wishes))
        self.check_kinds(steps, costs, wishes)
        return steps

    def check_kinds(self, steps, costs, wishes):
        self.assertIs(type(steps), list)
        for step in steps:
            self.assertIs(type(step), tuple)
            work, level, paid = step
            self.assertEqual([type(work), type(level), type(paid)], [int, int, list])
            self.assertEqual([type(part) for part in paid], [int] * len(wishes))
            self.assertEqual(sum(paid), costs[work] * grains_for(costs, wishes))

    def test_written_out(self):
        self.assertEqual(choose(PURSES, COSTS, WISHES), STEPS)
        self.assertEqual(choose([20, 20], [6], [[0], [0]]), [(0, 12, [12, 12])])
        self.assertEqual(choose([12, 20], [8], [[0], [0]]), [(0, 20, [12, 20])])
        self.assertEqual(choose([8, 20], [6], [[0], [0]]), [(0, 16, [8, 16])])

    def test_the_works_come_in_the_order_of_their_offers_not_of_their_costs(self):
        # 2 voters and 2 works: 8 grains a coin. The dearer work has two payers, and goes first.
        steps = choose([80, 80], [4, 6], [[0, 1], [1]])
        self.assertEqual(steps, [(1, 24, [24, 24]), (0, 32, [32, 0])])

    def test_of_alike_offers_the_least_number_goes_first(self):
        self.assertEqual([step[0] for step in choose([9], [3, 3, 3], [[0, 1, 2]])], [0, 1, 2])
        self.assertEqual([step[0] for step in choose([9], [4, 3, 3, 3], [[0, 1, 2, 3]])], [1, 2, 3])

    def test_a_wanter_with_an_empty_purse_pays_0(self):
        self.assertEqual(choose([0, 48], [6], [[0], [0]]), [(0, 24, [0, 24])])
        # The purse may also have been emptied by a step ahead.
        steps = choose([8, 80], [1, 4], [[0, 1], [1]])
        self.assertEqual(steps, [(0, 8, [8, 0]), (1, 32, [0, 32])])

    def test_others_pay_0(self):
        self.assertEqual(choose([144, 144, 144], [4], [[], [0], []]), [(0, 144, [0, 144, 0])])

    def test_no_coins(self):
        self.assertEqual(choose([0], [1], [[0]]), [])
        self.assertEqual(choose([0] * 20, [1] * 12, [list(range(12))] * 20), [])

    def test_no_wishes(self):
        self.assertEqual(choose([5, 5], [1, 1], [[], []]), [])

    def test_no_works(self):
        self.assertEqual(choose([7], [], [[]]), [])
        self.assertEqual(choose(equal_purses(MOST, [], [[]] * 20), [], [[]] * 20), [])

    def test_coins_for_all_works(self):
        costs = [5, 7, 1, 7, 3]
        wishes = [[0, 2, 4], [1, 3], [0, 1, 2, 3, 4]]
        for coins in (3 * sum(costs), 3 * sum(costs) + 1, MOST):
            steps = self.check(equal_purses(coins, costs, wishes), costs, wishes)
            self.assertEqual(works_of(steps), [0, 1, 2, 3, 4])

    def test_one_coin_too_few(self):
        # All want all, so just the sum of the costs is enough for all.
        costs = [4, 6, 3]
        wishes = [[0, 1, 2]] * 4
        self.assertEqual(works_of(self.check(equal_purses(13, costs, wishes), costs, wishes)), [0, 1, 2])
        self.assertEqual(works_of(self.check(equal_purses(12, costs, wishes), costs, wishes)), [0, 2])

    def test_the_cheapest_and_the_dearest_works(self):
        self.assertEqual(choose([MOST], [MOST], [[0]]), [(0, MOST, [MOST])])
        self.assertEqual(choose([MOST - 1], [MOST], [[0]]), [])
        self.assertEqual(choose([MOST], [MOST, 1], [[0, 1]]), [(1, 1, [1])])
        for cost in (1, MOST):
            costs = [cost] * 12
            for wishes in ([list(range(12))] * 20, [[voter % 12] for voter in range(20)]):
                self.check(equal_purses(MOST, costs, wishes), costs, wishes)
                self.check(coin_purses([MOST] * 20, costs, wishes), costs, wishes)

    def test_one_voter_and_twelve_works(self):
        costs = [12, 11, 10, 9, 8, 7, 6, 5, 4, 3, 2, 1]
        steps = choose([22], costs, [list(range(12))])
        self.assertEqual(steps, [(work, costs[work], [costs[work]]) for work in (11, 10, 9, 8, 7, 6)])

    def test_twenty_voters_and_twelve_works(self):
        costs = [7, 11, 13, 17, 19, 23, 29, 31, 37, 41, 43, 47]
        wishes = [[work for work in range(12) if (voter * voter + work * 7) % (work + 3) < 3] for voter in range(20)]
        for coins in (1, 50, 150, 318, 1000, MOST):
            steps = self.check(equal_purses(coins, costs, wishes), costs, wishes)
            self.assertGreater(len(steps), 0 if coins > 50 else -1)
        unlike = [voter * voter % 31 for voter in range(20)]
        self.check(coin_purses(unlike, costs, wishes), costs, wishes)

    def test_every_step_shared_by_another_number_of_voters(self):
        costs = [1] * 12
        wishes = [[work for work in range(12) if voter < 20 - work] for voter in range(20)]
        steps = self.check(equal_purses(20, costs, wishes), costs, wishes)
        self.assertEqual([20 - step[2].count(0) for step in steps], list(range(20, 8, -1)))
        costs = [1 + 13 * work for work in range(12)]
        self.assertGreater(len(self.check(equal_purses(300, costs, wishes), costs, wishes)), 4)

    def test_purses_of_whole_coins(self):
        for coins in ([3, 3, 3], [0, 0, 9], [5, 1, 2], [0, 0, 0], [1, 0, 1]):
            self.check(coin_purses(coins, COSTS, WISHES), COSTS, WISHES)
            self.check(coin_purses(coins, [3, 2, 1], WISHES), [3, 2, 1], WISHES)

    def test_every_small_town(self):
        for coins, costs, wishes in small_towns():
            self.check(equal_purses(coins, costs, wishes), costs, wishes)
            self.check(coin_purses([coins, 2], costs, wishes), costs, wishes)

    def test_many_towns(self):
        for town in some_purses(300, seed=14):
            self.check(*town)
        for town in some_purses(20, seed=15, voters=20, works=12, coins=300):
            self.check(*town)

    def test_equal_purses_as_the_town_tells_them(self):
        self.assertEqual(choose(purses_of(100, COSTS, WISHES), COSTS, WISHES), STEPS)

    def test_no_work_is_done_twice_or_without_a_wanter(self):
        for purses, costs, wishes in some_purses(100, seed=16):
            works = [work for work, level, paid in choose(purses, costs, wishes)]
            self.assertEqual(len(works), len(set(works)))
            self.assertLessEqual(set(works), {work for wanted in wishes for work in wanted})


class OfSteps(unittest.TestCase):
    def test_works_rise(self):
        self.assertEqual(works_of([]), [])
        self.assertEqual(works_of(STEPS), [0, 2])
        self.assertEqual(works_of(STEPS[:1]), [2])
        many = choose([78], [12, 11, 10, 9, 8, 7, 6, 5, 4, 3, 2, 1], [list(range(12))])
        self.assertEqual(works_of(many), list(range(12)))
        self.assertEqual(works_of(many[:3]), [9, 10, 11])

    def test_left_behind_none_some_and_all(self):
        self.assertEqual(left_of(PURSES, []), PURSES)
        self.assertEqual(left_of(PURSES, STEPS[:1]), [43200, 30240, 30240])
        self.assertEqual(left_of(PURSES, STEPS), [23760, 30240, 10800])
        self.assertEqual(left_of([12, 20], [(0, 20, [12, 20])]), [0, 0])
        self.assertEqual(left_of([7], []), [7])

    def test_left_and_payments_are_the_purses(self):
        for purses, costs, wishes in some_purses(100, seed=17):
            steps = choose(purses, costs, wishes)
            for count in range(len(steps) + 1):
                left = left_of(purses, steps[:count])
                for voter, purse in enumerate(purses):
                    paid = [step[2][voter] for step in steps[:count]]
                    self.assertEqual(left[voter], purse - sum(paid))
                    self.assertGreaterEqual(left[voter], 0)

    def test_bought(self):
        self.assertEqual(bought_by(WISHES, STEPS, 0), [(0, 19440)])
        self.assertEqual(bought_by(WISHES, STEPS, 1), [(2, 12960)])
        self.assertEqual(bought_by(WISHES, STEPS, 2), [(2, 12960), (0, 19440)])
        self.assertEqual(bought_by(WISHES, STEPS[:1], 2), [(2, 12960)])
        self.assertEqual(bought_by(WISHES, STEPS[:1], 0), [])
        self.assertEqual(bought_by(WISHES, [], 2), [])

    def test_bought_for_0(self):
        wishes = [[0, 1], [1]]
        steps = choose([8, 80], [1, 4], wishes)
        self.assertEqual(bought_by(wishes, steps, 0), [(0, 8), (1, 0)])
        self.assertEqual(bought_by(wishes, steps, 1), [(1, 32)])
        self.assertEqual(bought_by([[0], [0]], choose([0, 48], [6], [[0], [0]]), 0), [(0, 0)])

    def test_bought_by_who_wants_nothing(self):
        self.assertEqual(bought_by([[], [0]], choose([48, 48], [6], [[], [0]]), 0), [])

    def test_bought_in_the_order_of_the_steps(self):
        for purses, costs, wishes in some_purses(100, seed=18):
            steps = choose(purses, costs, wishes)
            for voter, wanted in enumerate(wishes):
                told = bought_by(wishes, steps, voter)
                self.assertEqual(told, [(step[0], step[2][voter]) for step in steps if step[0] in wanted])
                self.assertEqual(sum(paid for work, paid in told), purses[voter] - left_of(purses, steps)[voter])


if __name__ == "__main__":
    unittest.main()
