"""Promises 16 to 18: purse/papers.py."""

import itertools
import unittest

from purse.choosing import choose
from purse.errors import NoPaper
from purse.papers import first_wrong, paper_of
from samples import (
    LONG, MOST, coin_purses, equal_purses, grains_for, slow_steps, small_towns, some_purses,
)

# 3 voters and 4 works: a coin is 6 ** 5 = 7776 grains.
COSTS = [30, 50, 20, 10]
WISHES = [[0, 1], [2], [0, 1, 2]]
PURSES = [259200, 259200, 259200]
STEPS = [(2, 77760, [0, 77760, 77760]), (0, 116640, [116640, 0, 116640])]


def twelve_steps():
    """A town whose choosing does twelve works, of 20 voters."""
    costs = [3 + work % 5 for work in range(12)]
    wishes = [[work for work in range(12) if (voter + work) % 3 != 0] for voter in range(20)]
    return equal_purses(500, costs, wishes), costs, wishes


class Paper(unittest.TestCase):
    def test_written_out(self):
        self.assertEqual(
            paper_of(PURSES, COSTS, WISHES, 1), ([(0, 142560), (2, 64800)], 207360, 388800)
        )

    def test_a_work_that_nobody_wants(self):
        self.assertEqual(paper_of(PURSES, COSTS, WISHES, 3), ([], 0, 77760))
        self.assertEqual(paper_of([5], [1], [[]], 0), ([], 0, 1))

    def test_one_grain_less(self):
        self.assertEqual(paper_of([MOST - 1], [MOST], [[0]], 0), ([(0, MOST - 1)], MOST - 1, MOST))

    def test_no_coins(self):
        paper = paper_of([0, 0], [3], [[0], [0]], 0)
        self.assertEqual(paper, ([(0, 0), (1, 0)], 0, 12))

    def test_a_done_work_is_refused(self):
        for work in (0, 2):
            with self.subTest(work):
                with self.assertRaises(NoPaper):
                    paper_of(PURSES, COSTS, WISHES, work)
        with self.assertRaises(NoPaper):
            paper_of([MOST], [MOST], [[0]], 0)

    def test_each_work_has_a_paper_or_is_done(self):
        towns = some_purses(150, seed=20) + some_purses(10, seed=21, voters=20, works=12, coins=200)
        for purses, costs, wishes in towns:
            steps = slow_steps(purses, costs, wishes)
            left = [
                purse - sum(paid[voter] for work, level, paid in steps) for voter, purse in enumerate(purses)
            ]
            done = [work for work, level, paid in steps]
            for work, cost in enumerate(costs):
                if work in done:
                    with self.assertRaises(NoPaper):
                        paper_of(purses, costs, wishes, work)
                else:
                    rows = [(voter, left[voter]) for voter, wanted in enumerate(wishes) if work in wanted]
                    have = sum(purse for voter, purse in rows)
                    told = paper_of(purses, costs, wishes, work)
                    self.assertEqual(told, (rows, have, cost * grains_for(costs, wishes)))
                    self.assertEqual([type(told), type(told[0])], [tuple, list])
                    self.assertLess(told[1], told[2])


class FirstWrong(unittest.TestCase):
    def towns(self):
        return [
            (PURSES, COSTS, WISHES),
            ([22], [12, 11, 10, 9, 8, 7, 6, 5, 4, 3, 2, 1], [list(range(12))]),
            ([80, 80], [4, 6], [[0, 1], [1]]),
            ([8, 80], [1, 4], [[0, 1], [1]]),
            # Two parties whose works have alike offers: only the lesser number may go first.
            ([80, 80], [4, 4], [[0], [1]]),
            ([80, 80], [4, 4], [[1], [0]]),
            twelve_steps(),
        ] + some_purses(20, seed=22)

    def of_each_step(self, check):
        for town in self.towns():
            right = choose(*town)
            for place in range(len(right)):
                check(town, right, place)

    def tells(self, town, row, place):
        told = first_wrong(*town, row)
        self.assertEqual(told, place, (town, row))
        self.assertIs(type(told), type(place))

    def changed(self, right, place, step):
        return right[:place] + [step] + right[place + 1:]

    def test_none_of_the_steps_of_the_choosing(self):
        for town in self.towns() + some_purses(100, seed=23):
            self.tells(town, choose(*town), None)
            self.tells(town, [(work, int(level), [int(part) for part in paid])
                              for work, level, paid in slow_steps(*town)], None)

    def test_written_out(self):
        town = (PURSES, COSTS, WISHES)
        self.tells(town, STEPS, None)
        self.tells(town, [], 0)
        self.tells(town, STEPS[:1], 1)
        self.tells(town, STEPS[1:], 0)
        self.tells(town, STEPS + STEPS[1:], 2)
        self.tells(town, [STEPS[0], STEPS[0], STEPS[1]], 1)
        self.tells(town, [STEPS[1], STEPS[0]], 0)
        self.tells(town, [STEPS[0], (0, 116640, [116640, 1, 116640])], 1)

    def test_the_long_town_has_twelve_steps(self):
        self.assertEqual(len(choose(*twelve_steps())), 12)

    def test_an_empty_row(self):
        self.tells(([0], [1], [[0]]), [], None)
        self.tells(([1], [1], [[0]]), [], 0)
        self.tells(([1], [1], [[]]), [], None)
        self.tells(([1], [], [[]]), [], None)
        self.tells(([0] * 20, [1] * 12, [list(range(12))] * 20), [], None)

    def test_any_step_where_none_is_right(self):
        self.tells(([0], [1], [[0]]), [(0, 1, [1])], 0)
        self.tells(([0], [1], [[0]]), [(0, 0, [0])], 0)
        self.tells(([1], [], [[]]), [(0, 0, [0])], 0)
        self.tells(([1], [1], [[0]]), [(0, 1, [1]), (0, 0, [0])], 1)

    def test_a_step_left_out(self):
        self.of_each_step(lambda town, right, place: self.tells(town, right[:place] + right[place + 1:], place))

    def test_all_steps_from_a_place_on_left_out(self):
        self.of_each_step(lambda town, right, place: self.tells(town, right[:place], place))

    def test_a_step_doubled(self):
        self.of_each_step(lambda town, right, place: self.tells(town, right[:place + 1] + right[place:], place + 1))

    def test_two_steps_changed_round(self):
        def check(town, right, place):
            for other in range(place):
                row = list(right)
                row[place], row[other] = row[other], row[place]
                self.tells(town, row, other)

        self.of_each_step(check)

    def test_another_work(self):
        def check(town, right, place):
            work, level, paid = right[place]
            works = len(town[1])
            for other in (work - 1, work + 1, -1, work - works, works, works + 1, LONG, -LONG):
                if other != work:
                    self.tells(town, self.changed(right, place, (other, level, paid)), place)

        self.of_each_step(check)

    def test_another_level(self):
        def check(town, right, place):
            work, level, paid = right[place]
            for other in (level - 1, level + 1, -level, 0, LONG, -LONG):
                self.tells(town, self.changed(right, place, (work, other, paid)), place)

        self.of_each_step(check)

    def test_another_payment(self):
        def check(town, right, place):
            work, level, paid = right[place]
            for voter, part in enumerate(paid):
                for other in (part - 1, part + 1, -1, LONG, -LONG):
                    row = paid[:voter] + [other] + paid[voter + 1:]
                    self.tells(town, self.changed(right, place, (work, level, row)), place)

        self.of_each_step(check)

    def test_payments_that_come_to_the_price_but_otherwise(self):
        def check(town, right, place):
            work, level, paid = right[place]
            for giver, taker in itertools.permutations(range(len(paid)), 2):
                row = list(paid)
                row[giver] -= 1
                row[taker] += 1
                self.tells(town, self.changed(right, place, (work, level, row)), place)

        self.of_each_step(check)

    def test_two_wrong_places_the_first_is_told(self):
        def check(town, right, place):
            row = [(work, level + 1, paid) if at >= place else (work, level, paid)
                   for at, (work, level, paid) in enumerate(right)]
            self.tells(town, row, place)

        self.of_each_step(check)

    def test_long_rows(self):
        for town in self.towns():
            right = choose(*town)
            nothing = [0] * len(town[2])
            for tail in ((0, 0, nothing), (-1, -1, [-1] * len(nothing)), (LONG, LONG, [LONG] * len(nothing))):
                self.tells(town, (right + [tail] * 40)[:40], len(right))
                self.tells(town, [tail] * 40, 0)
            self.tells(town, (right * 40 + [(0, 0, nothing)] * 40)[:40], len(right))

    def test_only_one_row_of_each_small_town(self):
        for coins, costs, wishes in small_towns():
            town = (equal_purses(coins, costs, wishes), costs, wishes)
            right = choose(*town)
            self.tells(town, right, None)
            steps = right + [(0, 8, [8, 0]), (1, 4, [4, 4])]
            for count in range(4):
                for row in itertools.product(steps, repeat=count):
                    self.tells(town, list(row), self.first_unlike(list(row), right))

    def first_unlike(self, row, right):
        if row == right:
            return None
        alike = 0
        while alike < min(len(row), len(right)) and row[alike] == right[alike]:
            alike += 1
        return alike

    def test_a_row_of_another_town(self):
        # The same town with one coin more in a purse, and with another cost.
        town = (coin_purses([3, 9, 9], [6, 9], [[0, 1]] * 3), [6, 9], [[0, 1]] * 3)
        richer = (coin_purses([4, 9, 9], [6, 9], [[0, 1]] * 3), [6, 9], [[0, 1]] * 3)
        dearer = (coin_purses([3, 9, 9], [6, 10], [[0, 1]] * 3), [6, 10], [[0, 1]] * 3)
        self.tells(town, choose(*town), None)
        self.tells(town, choose(*richer), 1)
        self.tells(town, choose(*dearer), 1)


if __name__ == "__main__":
    unittest.main()
