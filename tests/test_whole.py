"""Promise 3: what holds over the whole program."""

import itertools
import random
import unittest

from purse.chests import Chest
from purse.choosing import bought_by, choose, left_of, works_of
from purse.filling import plan_of
from purse.groups import parties_of, wronged
from purse.papers import first_wrong
from samples import coin_purses, equal_purses, grains_for, small_towns, some_purses, some_towns


def towns():
    equal = [(equal_purses(*town), town[1], town[2]) for town in small_towns()]
    return equal + some_purses(150, seed=40) + some_purses(10, seed=41, voters=20, works=12, coins=200)


class Grains(unittest.TestCase):
    def test_each_step_comes_to_the_price_and_nothing_is_lost(self):
        for purses, costs, wishes in towns():
            steps = choose(purses, costs, wishes)
            price = 0
            for work, level, paid in steps:
                self.assertEqual(sum(paid), costs[work] * grains_for(costs, wishes))
                self.assertEqual(max(paid), level)
                price += sum(paid)
            self.assertEqual(sum(left_of(purses, steps)) + price, sum(purses))

    def test_the_looker_lets_the_one_row_by(self):
        for town in towns():
            steps = choose(*town)
            self.assertIsNone(first_wrong(*town, steps))
            for row in (steps[:-1], steps + steps[-1:], steps[::-1]):
                if row != steps:
                    self.assertIsNotNone(first_wrong(*town, row))


class Groups(unittest.TestCase):
    def check(self, coins, costs, wishes):
        steps = choose(equal_purses(coins, costs, wishes), costs, wishes)
        done = [len(bought_by(wishes, steps, voter)) for voter in range(len(wishes))]
        for size in range(1, len(wishes) + 1):
            for voters in itertools.combinations(range(len(wishes)), size):
                common = [work for work in range(len(costs)) if all(work in wishes[voter] for voter in voters)]
                # The more works for the coins the better, so the cheapest ones of each number are asked.
                cheapest = sorted(costs[work] for work in common)
                for count in range(1, len(cheapest) + 1):
                    if sum(cheapest[:count]) * len(wishes) <= coins * size:
                        self.assertGreaterEqual(max(done[voter] for voter in voters), count)
        self.assertIsNone(wronged(coins, costs, wishes, works_of(steps)))

    def test_no_group_is_left_behind(self):
        for town in small_towns():
            self.check(*town)
        for town in some_towns(150, seed=42, voters=6, works=6, coins=50, cost=15):
            self.check(*town)


class Wishes(unittest.TestCase):
    def with_wish(self, wishes, voter, work):
        return [sorted(wanted + [work]) if other == voter else wanted for other, wanted in enumerate(wishes)]

    def test_one_wanter_more_does_not_undo_a_work(self):
        for purses, costs, wishes in towns():
            for work in works_of(choose(purses, costs, wishes)):
                for voter, wanted in enumerate(wishes):
                    if work not in wanted:
                        more = self.with_wish(wishes, voter, work)
                        self.assertIn(work, works_of(choose(purses, costs, more)), (purses, costs, wishes, voter))

    def test_a_lower_cost_does_not_undo_a_work(self):
        for purses, costs, wishes in towns():
            for work in works_of(choose(purses, costs, wishes)):
                for cost in {1, costs[work] // 2 or 1, costs[work] - 1 or 1}:
                    lower = costs[:work] + [cost] + costs[work + 1:]
                    self.assertIn(work, works_of(choose(purses, lower, wishes)), (purses, costs, wishes, cost))

    def test_wishes_for_works_that_are_not_done_change_nothing(self):
        for purses, costs, wishes in towns():
            steps = choose(purses, costs, wishes)
            done = works_of(steps)
            bare = [[work for work in wanted if work in done] for wanted in wishes]
            self.assertEqual(choose(purses, costs, bare), steps)
            for voter, wanted in enumerate(wishes):
                one = wishes[:voter] + [bare[voter]] + wishes[voter + 1:]
                self.assertEqual(choose(purses, costs, one), steps)


class Parties(unittest.TestCase):
    def check(self, purses, costs, wishes):
        steps = choose(purses, costs, wishes)
        parts = []
        for party in parties_of(costs, wishes):
            alone = [wanted if voter in party else [] for voter, wanted in enumerate(wishes)]
            works = {work for wanted in alone for work in wanted}
            part = choose(purses, costs, alone)
            self.assertEqual(part, [step for step in steps if step[0] in works])
            parts.extend(part)
        self.assertEqual(sorted(parts), sorted(steps))

    def test_each_is_dealt_with_as_if_the_others_wished_for_nothing(self):
        for town in towns():
            self.check(*town)
        # Towns of several parties: voters want works of their own third alone.
        for purses, costs, wishes in some_purses(100, seed=43, voters=9, works=9):
            apart = [[work for work in wanted if work % 3 == voter % 3] for voter, wanted in enumerate(wishes)]
            self.check(purses, costs, apart)


class Alike(unittest.TestCase):
    def test_all_voters_alike_pay_alike(self):
        costs = [9, 4, 4, 1, 6]
        for voters in (1, 2, 7, 20):
            for coins in (0, 1, 5, 15, 23, 24, 100):
                wishes = [[0, 1, 2, 3, 4]] * voters
                steps = choose(equal_purses(coins, costs, wishes), costs, wishes)
                grains = grains_for(costs, wishes)
                # By their costs, as long as the coins last: what is dearer behind can't be paid either.
                order = [work for place, work in enumerate([3, 1, 2, 4, 0]) if [1, 5, 9, 15, 24][place] <= coins]
                rows = [(work, costs[work] * grains // voters) for work in order]
                with self.subTest(voters=voters, coins=coins):
                    self.assertEqual(steps, [(work, part, [part] * voters) for work, part in rows])

    def test_alike_voters_are_dealt_with_alike(self):
        costs = [5, 7, 3, 11]
        wishes = [[0, 1], [2, 3], [0, 1], [2, 3], [1, 2]]
        for coins in (10, 20, 30, 60):
            for work, level, paid in choose(equal_purses(coins, costs, wishes), costs, wishes):
                self.assertEqual([paid[0], paid[1]], [paid[2], paid[3]])

    def test_voters_by_other_numbers_are_dealt_with_the_same(self):
        for purses, costs, wishes in some_purses(100, seed=44):
            turned = choose(purses[::-1], costs, wishes[::-1])
            steps = choose(purses, costs, wishes)
            self.assertEqual(turned, [(work, level, paid[::-1]) for work, level, paid in steps])

    def test_whole_coins_alike_are_equal_purses(self):
        costs = [5, 7, 3]
        wishes = [[0, 1], [1, 2], [0, 2], [0]]
        self.assertEqual(
            choose(coin_purses([5] * 4, costs, wishes), costs, wishes),
            choose(equal_purses(20, costs, wishes), costs, wishes),
        )


class Coins(unittest.TestCase):
    def test_a_plan_spends_or_leaves_every_coin(self):
        for coins, costs, wishes in list(small_towns()) + some_towns(150, seed=45):
            steps, filled, over = plan_of(coins, costs, wishes)
            done = [work for work, level, paid in steps] + filled
            self.assertEqual(len(done), len(set(done)))
            self.assertEqual(sum(costs[work] for work in done) + over, coins)

    def some_wishes(self, rng, chest):
        for work, cost, wanters in chest.works():
            for voter, purse in chest.voters():
                if rng.random() < 0.6:
                    chest.want(voter, work)

    def close(self, chest):
        """Closes, and looks after each grain of each voter."""
        ahead, pot, spent = dict(chest.voters()), chest.pot(), chest.spent()
        rows, grains = chest.close()
        below = 0
        for voter, purse in chest.voters():
            paid = sum(part for work, cost, payers in rows for payer, part in payers if payer == voter)
            left = ahead[voter] * grains - paid
            self.assertGreaterEqual(left, 0)
            self.assertEqual(purse, left // grains)
            below += left - purse * grains
        self.assertEqual(below, (chest.pot() - pot) * grains)
        self.assertEqual(chest.spent() - spent, sum(cost for work, cost, payers in rows))
        for work, cost, payers in rows:
            self.assertEqual(sum(part for payer, part in payers), cost * grains)
        return below

    def test_no_coin_is_lost_from_year_to_year(self):
        rng = random.Random(46)
        chest, given, below = Chest(), 0, 0
        names = ["ann", "bob", "cid", "dan", "eve", "fay", "gus"]
        for year in range(120):
            there = [name for name, purse in chest.voters()]
            name = rng.choice(names)
            if name not in there:
                chest.enrol(name)
            elif year % 3 == 0:
                chest.leave(name)
            for work in rng.sample(names, 3):
                if work not in [row[0] for row in chest.works()] and len(chest.works()) < 5:
                    chest.propose(work, rng.randrange(1, 40))
            self.some_wishes(rng, chest)
            coins = rng.choice([0, 5, 30, 60])
            chest.give(coins)
            given += coins
            below += self.close(chest)
            purses = sum(purse for name, purse in chest.voters())
            self.assertEqual([chest.given(), chest.spent() + purses + chest.pot()], [given, given])
        # Some years left grains below a coin, or nothing would be tried here.
        self.assertGreater(below, 0)
        self.assertGreater(chest.spent(), 500)


if __name__ == "__main__":
    unittest.main()
