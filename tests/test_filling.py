"""Promises 22 and 23: purse/filling.py."""

import itertools
import unittest

from purse.errors import TooMuch
from purse.filling import fill, plan_of
from purse.groups import wronged
from samples import MOST, equal_purses, slow_fill, slow_steps, small_towns, some_towns


def all_rows(works):
    """Every list of works, none twice, in every order."""
    return [list(row) for count in range(works + 1) for row in itertools.permutations(range(works), count)]


class Fill(unittest.TestCase):
    def tells(self, town, works, answer):
        told = fill(*town, works)
        self.assertEqual(told, answer, (town, works))
        self.assertIs(type(told), list)
        self.assertEqual([type(work) for work in told], [int] * len(told))

    def refuses(self, town, works):
        with self.assertRaises(TooMuch):
            fill(*town, works)

    def test_most_wanters_go_first(self):
        self.tells((100, [1, 9, 5], [[0, 1], [1, 2], [1, 2]]), [], [1, 2, 0])
        self.tells((9, [1, 9, 5], [[0, 1], [1, 2], [1, 2]]), [], [1])

    def test_of_alike_wanters_the_least_cost(self):
        self.tells((100, [7, 5, 6], [[0, 1, 2]]), [], [1, 2, 0])
        self.tells((11, [7, 5, 6], [[0, 1, 2]]), [], [1, 2])
        # As many wanters, but other ones.
        self.tells((100, [7, 5], [[0], [1]]), [], [1, 0])

    def test_of_alike_costs_the_least_number(self):
        self.tells((100, [5, 5, 5], [[0, 1, 2]]), [], [0, 1, 2])
        self.tells((5, [5, 5, 5], [[1, 2], []]), [], [1])
        self.tells((12, [1] * 12, [list(range(12))] * 20), [], list(range(12)))

    def test_wanters_go_ahead_of_the_cost_and_the_cost_ahead_of_the_number(self):
        self.tells((100, [1, 50, 40, 40], [[0, 1, 2, 3], [1, 2, 3], [1]]), [], [1, 2, 0])
        self.tells((131, [1, 50, 40, 40], [[0, 1, 2, 3], [1, 2, 3], [1]]), [], [1, 2, 3, 0])

    def test_a_work_that_nobody_wants(self):
        self.tells((100, [1, 2], [[], []]), [], [])
        self.tells((100, [1, 2, 3], [[1], [1]]), [], [1])
        self.tells((100, [1, 2, 3], [[1], [1]]), [0], [1])
        self.tells((MOST, [1] * 12, [[]] * 20), [], [])

    def test_just_what_is_left_over_and_one_coin_more(self):
        self.tells((10, [10], [[0]]), [], [0])
        self.tells((10, [11], [[0]]), [], [])
        self.tells((10, [4, 6], [[1]]), [0], [1])
        self.tells((10, [4, 7], [[1]]), [0], [])
        self.tells((10, [4, 6], [[0, 1]]), [], [0, 1])
        self.tells((9, [4, 6], [[0, 1]]), [], [0])
        self.tells((MOST, [MOST], [[0]] * 20), [], [0])
        self.tells((MOST - 1, [MOST], [[0]] * 20), [], [])

    def test_a_work_too_dear_is_passed_over(self):
        self.tells((10, [11, 3, 8], [[0, 1, 2], [0, 2], [0]]), [], [2])
        self.tells((10, [11, 3, 7], [[0, 1, 2], [0, 2], [0]]), [], [2, 1])
        # Too dear only behind the first one.
        self.tells((10, [6, 5, 4], [[0, 1, 2], [0, 1], [0]]), [], [0, 2])

    def test_no_coins(self):
        self.tells((0, [1, 1], [[0, 1]]), [], [])
        self.tells((5, [5, 1], [[0, 1]]), [0], [])

    def test_no_works(self):
        self.tells((10, [], [[]]), [], [])
        self.tells((0, [], [[]] * 20), [], [])

    def test_works_handed_in_are_not_done_again(self):
        costs, wishes = [3, 2, 4], [[0, 1, 2], [0, 1], [0]]
        self.tells((100, costs, wishes), [], [0, 1, 2])
        self.tells((100, costs, wishes), [0], [1, 2])
        for works in ([2, 0], [0, 2]):
            self.tells((100, costs, wishes), works, [1])
        for works in itertools.permutations([0, 1, 2]):
            self.tells((100, costs, wishes), list(works), [])

    def test_works_handed_in_that_nobody_wants_are_paid_too(self):
        self.tells((10, [6, 4, 5], [[1, 2]]), [0], [1])
        self.tells((10, [5, 6, 5], [[1, 2]]), [0], [2])

    def test_works_that_cost_more_than_the_coins_are_refused(self):
        for works in ([0, 1], [1, 0]):
            self.refuses((9, [4, 6], [[0, 1]]), works)
            self.tells((10, [4, 6], [[0, 1]]), works, [])
            self.tells((11, [4, 6], [[0, 1]]), works, [])
        self.refuses((0, [1], [[0]]), [0])
        self.refuses((MOST - 1, [MOST], [[0]]), [0])
        self.tells((MOST, [MOST], [[0]]), [0], [])
        self.refuses((MOST, [MOST] * 12, [list(range(12))]), list(range(12)))

    def test_works_that_nobody_wants_are_refused_too(self):
        self.refuses((3, [4], [[]]), [0])
        self.tells((4, [4], [[]]), [0], [])

    def test_nothing_is_refused_without_works_handed_in(self):
        self.tells((0, [MOST], [[0]]), [], [])

    def check_town(self, coins, costs, wishes, works):
        if sum(costs[work] for work in works) > coins:
            self.refuses((coins, costs, wishes), works)
        else:
            self.tells((coins, costs, wishes), works, slow_fill(coins, costs, wishes, works))

    def test_every_small_town(self):
        for town in small_towns():
            for works in all_rows(2):
                self.check_town(*town, works)

    def test_many_towns(self):
        for town in some_towns(150, seed=50, works=4, coins=30, cost=12):
            for works in all_rows(len(town[1])):
                self.check_town(*town, works)
        for town in some_towns(40, seed=51, voters=20, works=12, coins=60, cost=9):
            count = len(town[1])
            for works in ([], [0], list(range(count)), list(range(0, count, 3))[::-1]):
                self.check_town(*town, works)


class Plan(unittest.TestCase):
    def tells(self, town, answer):
        told = plan_of(*town)
        self.assertEqual(told, answer, town)
        self.assertIs(type(told), tuple)
        self.assertEqual([type(part) for part in told], [list, list, int])

    def test_written_out(self):
        steps = [(2, 12960, [0, 12960, 12960]), (0, 19440, [19440, 0, 19440])]
        wishes = [[0, 1], [2], [0, 1, 2]]
        self.tells((100, [30, 50, 20], wishes), (steps, [1], 0))
        self.tells((100, [30, 51, 20], wishes), (steps, [], 50))

    def test_filled_in_their_order(self):
        # Of three voters each has two coins: none can pay alone, and work 2 is wanted by two.
        wishes = [[0, 2], [1, 2], [3]]
        self.tells((6, [3, 4, 5, 3], wishes), ([], [2], 1))
        self.tells((6, [3, 4, 7, 3], wishes), ([], [0, 3], 0))

    def test_no_works(self):
        self.tells((0, [], [[]]), ([], [], 0))
        self.tells((7, [], [[]]), ([], [], 7))
        self.tells((MOST, [], [[]] * 20), ([], [], MOST))

    def test_no_coins(self):
        self.tells((0, [1, 2], [[0, 1], [1]]), ([], [], 0))

    def test_nobody_wants_anything(self):
        self.tells((50, [1, 2], [[], []]), ([], [], 50))

    def test_one_voter(self):
        self.tells((5, [3, 2, 1], [[0, 1]]), ([(1, 2, [2]), (0, 3, [3])], [], 0))
        self.tells((4, [3, 2, 1], [[0, 1]]), ([(1, 2, [2])], [], 2))
        self.tells((6, [3, 2, 1], [[0, 1]]), ([(1, 2, [2]), (0, 3, [3])], [], 1))

    def test_coins_for_all_works(self):
        costs, wishes = [6, 9], [[0, 1], [1]]
        # A coin is 8 grains; 15 coins are 60 grains for each.
        self.tells((15, costs, wishes), ([(1, 36, [36, 36])], [0], 0))
        self.tells((30, costs, wishes), ([(1, 36, [36, 36]), (0, 48, [48, 0])], [], 15))

    def test_twenty_voters_and_twelve_works(self):
        costs = [work + 1 for work in range(12)]
        wishes = [list(range(12))] * 20
        for coins in (0, 1, 77, 78, 79, MOST):
            steps, filled, over = plan_of(coins, costs, wishes)
            done = [work for work, level, paid in steps]
            self.assertEqual(filled, [])
            self.assertEqual(over, coins - sum(costs[work] for work in done))
        self.assertEqual(plan_of(78, costs, wishes)[2], 0)
        self.assertEqual(plan_of(77, costs, wishes)[2], 11)

    def check_town(self, coins, costs, wishes):
        steps = slow_steps(equal_purses(coins, costs, wishes), costs, wishes)
        chosen = [work for work, level, paid in steps]
        filled = slow_fill(coins, costs, wishes, chosen)
        over = coins - sum(costs[work] for work in chosen + filled)
        self.tells((coins, costs, wishes), (steps, filled, over))
        self.assertGreaterEqual(over, 0)
        # Nothing that somebody wants could still be paid.
        for work, cost in enumerate(costs):
            if work not in chosen + filled and any(work in wanted for wanted in wishes):
                self.assertGreater(cost, over)

    def test_every_small_town_and_many_others(self):
        for town in small_towns():
            self.check_town(*town)
        for town in some_towns(200, seed=52):
            self.check_town(*town)
        for town in some_towns(15, seed=53, voters=20, works=12, coins=100):
            self.check_town(*town)

    def test_nobody_is_wronged(self):
        towns = list(small_towns()) + some_towns(150, seed=54) + some_towns(10, seed=55, voters=20, works=8, coins=90)
        for town in towns:
            steps, filled, over = plan_of(*town)
            works = sorted([work for work, level, paid in steps] + filled)
            self.assertIsNone(wronged(*town, works), town)


if __name__ == "__main__":
    unittest.main()
