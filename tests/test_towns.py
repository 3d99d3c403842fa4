"""Promises 6, 7 and 8: purse/towns.py."""

import itertools
import unittest

from purse.towns import common_of, cost_of, is_town, purses_of, wanters_of

MOST = 10 ** 12
LONG = 10 ** 200 - 1


class IsTown(unittest.TestCase):
    def holds(self, coins, costs, wishes):
        self.assertIs(is_town(coins, costs, wishes), True)

    def fails(self, coins, costs, wishes):
        self.assertIs(is_town(coins, costs, wishes), False)

    def test_ordinary(self):
        self.holds(100, [30, 50, 20], [[0, 1], [2], [0, 1, 2]])

    def test_coins(self):
        for coins in (0, 1, MOST - 1, MOST):
            with self.subTest(coins):
                self.holds(coins, [1], [[0]])
        for coins in (-1, MOST + 1, -MOST, LONG, -LONG):
            with self.subTest(coins):
                self.fails(coins, [1], [[0]])

    def test_costs(self):
        for cost in (1, 2, MOST - 1, MOST):
            with self.subTest(cost):
                self.holds(5, [cost], [[0]])
        for cost in (0, -1, MOST + 1, -MOST, LONG, -LONG):
            with self.subTest(cost):
                self.fails(5, [cost], [[0]])

    def test_a_wrong_cost_at_any_place(self):
        for place in range(12):
            for cost in (0, MOST + 1):
                costs = [1] * 12
                costs[place] = cost
                with self.subTest(place=place, cost=cost):
                    self.fails(5, costs, [[]])

    def test_a_cost_may_be_above_the_coins(self):
        self.holds(0, [MOST], [[0]])

    def test_how_many_works(self):
        for works in (0, 1, 11, 12):
            with self.subTest(works):
                self.holds(5, [1] * works, [[]])
                self.holds(5, [1] * works, [list(range(works))])
        for works in (13, 14, 40):
            with self.subTest(works):
                self.fails(5, [1] * works, [[]])
                self.fails(5, [1] * works, [list(range(works))])

    def test_how_many_voters(self):
        for voters in (1, 2, 19, 20):
            with self.subTest(voters):
                self.holds(5, [1], [[0]] * voters)
                self.holds(5, [], [[]] * voters)
        for voters in (0, 21, 22, 40):
            with self.subTest(voters):
                self.fails(5, [1], [[0]] * voters)
                self.fails(5, [], [[]] * voters)

    def test_a_voter_who_wants_nothing(self):
        self.holds(5, [1, 2], [[]])
        self.holds(5, [1, 2], [[0, 1], [], [1]])

    def test_wishes_that_fall(self):
        self.fails(5, [1, 1, 1], [[1, 0]])
        self.fails(5, [1, 1, 1], [[0, 2, 1]])
        self.fails(5, [1, 1, 1], [[2, 0, 1]])

    def test_a_work_twice(self):
        self.fails(5, [1, 1, 1], [[0, 0]])
        self.fails(5, [1, 1, 1], [[0, 1, 1]])
        self.fails(5, [1, 1, 1], [[0, 1, 2, 2]])
        self.fails(5, [1, 1, 1], [[1, 2, 1]])
        self.fails(5, [1] * 12, [[0] * 40])

    def test_a_work_that_is_none(self):
        for work in (-1, -2, -3, 3, 4, LONG, -LONG):
            with self.subTest(work):
                self.fails(5, [1, 1, 1], [[work]])
        self.fails(5, [1, 1, 1], [[-1, 0, 1]])
        self.fails(5, [1, 1, 1], [[0, 1, 2, 3]])
        self.fails(5, [], [[0]])
        self.fails(5, [1] * 12, [[12]])

    def test_one_wrong_voter_among_right_ones(self):
        for place in range(20):
            for wanted in ([1, 0], [1, 1], [2], [-1]):
                wishes = [[0, 1]] * 20
                wishes[place] = wanted
                with self.subTest(place=place, wanted=wanted):
                    self.fails(5, [1, 1], wishes)

    def test_long_lists_of_long_numbers(self):
        self.fails(LONG, [LONG] * 40, [[LONG] * 40] * 40)
        self.fails(-LONG, [-LONG] * 40, [[-LONG] * 40] * 40)
        self.fails(5, [1] * 12, [list(range(40))])

    def test_every_short_wish(self):
        numbers = range(-1, 4)
        rights = [list(wanted) for count in range(4) for wanted in itertools.combinations(range(3), count)]
        for count in range(5):
            for wanted in itertools.product(numbers, repeat=count):
                with self.subTest(wanted):
                    self.assertIs(is_town(5, [1, 1, 1], [list(wanted)]), list(wanted) in rights)


class Wanters(unittest.TestCase):
    wishes = [[0, 1], [2], [], [0, 1, 2], [1]]

    def test_wanters(self):
        self.assertEqual(wanters_of(self.wishes, 0), [0, 3])
        self.assertEqual(wanters_of(self.wishes, 1), [0, 3, 4])
        self.assertEqual(wanters_of(self.wishes, 2), [1, 3])
        self.assertEqual(wanters_of(self.wishes, 3), [])
        self.assertEqual(wanters_of([[]], 0), [])

    def test_all_twenty_want_the_last_of_twelve(self):
        self.assertEqual(wanters_of([list(range(12))] * 20, 11), list(range(20)))

    def test_common(self):
        self.assertEqual(common_of(self.wishes, [0]), [0, 3])
        self.assertEqual(common_of(self.wishes, [0, 1]), [0, 3])
        self.assertEqual(common_of(self.wishes, [1, 2]), [3])
        self.assertEqual(common_of(self.wishes, [0, 1, 2]), [3])
        self.assertEqual(common_of(self.wishes, [3]), [])
        self.assertEqual(common_of(self.wishes, [0, 3]), [])

    def test_common_of_no_works_is_all_voters(self):
        self.assertEqual(common_of(self.wishes, []), [0, 1, 2, 3, 4])
        self.assertEqual(common_of([[]], []), [0])
        self.assertEqual(common_of([[]] * 20, []), list(range(20)))

    def test_works_in_any_order(self):
        for works in itertools.permutations([0, 1, 2]):
            with self.subTest(works):
                self.assertEqual(common_of(self.wishes, list(works)), [3])
        self.assertEqual(common_of(self.wishes, [1, 0]), [0, 3])

    def test_common_of_one_work_is_its_wanters(self):
        for work in range(4):
            with self.subTest(work):
                self.assertEqual(common_of(self.wishes, [work]), wanters_of(self.wishes, work))

    def test_every_small_town(self):
        kinds = [[work for work in range(3) if bits >> work & 1] for bits in range(8)]
        choices = [list(works) for count in range(4) for works in itertools.permutations(range(3), count)]
        for wishes in itertools.product(kinds, repeat=3):
            for works in choices:
                common = [voter for voter in range(3) if set(works) <= set(wishes[voter])]
                self.assertEqual(common_of(list(wishes), works), common)


class Cost(unittest.TestCase):
    def test_no_works_cost_nothing(self):
        self.assertEqual(cost_of([], []), 0)
        self.assertEqual(cost_of([3, 5], []), 0)

    def test_the_sum_of_just_these_in_any_order(self):
        costs = [1, 10, 100, 1000]
        self.assertEqual(cost_of(costs, [0]), 1)
        self.assertEqual(cost_of(costs, [3]), 1000)
        self.assertEqual(cost_of(costs, [0, 2]), 101)
        self.assertEqual(cost_of(costs, [2, 0]), 101)
        self.assertEqual(cost_of(costs, [3, 1, 0, 2]), 1111)

    def test_twelve_of_the_dearest(self):
        self.assertEqual(cost_of([MOST] * 12, list(range(12))), 12 * MOST)


class Purses(unittest.TestCase):
    def test_written_out(self):
        self.assertEqual(purses_of(10, [5], [[0], [], [0]]), [120, 120, 120])
        self.assertEqual(purses_of(7, [], [[]]), [7])
        self.assertEqual(purses_of(0, [5], [[0], [0]]), [0, 0])
        self.assertEqual(purses_of(1, [], [[]] * 20), [11639628] * 20)

    def test_the_greatest_town(self):
        purse = 10 ** 12 * 232792560 ** 13 // 20
        self.assertEqual(purses_of(MOST, [1] * 12, [list(range(12))] * 20), [purse] * 20)

    def test_one_for_each_voter_and_all_coins_in_all(self):
        together = [1, 1, 2, 6, 12, 60, 60, 420, 840, 2520, 2520]
        for voters in range(1, 11):
            for works in range(5):
                with self.subTest(voters=voters, works=works):
                    purses = purses_of(13, [1] * works, [[]] * voters)
                    self.assertEqual(len(purses), voters)
                    self.assertEqual(len(set(purses)), 1)
                    self.assertEqual(sum(purses), 13 * together[voters] ** (works + 1))

    def test_neither_costs_nor_wishes_change_them(self):
        plain = purses_of(9, [1, 1], [[], []])
        self.assertEqual(purses_of(9, [MOST, 7], [[0, 1], [1]]), plain)


if __name__ == "__main__":
    unittest.main()
