"""Promises 19 to 21: purse/groups.py."""

import itertools
import random
import unittest

from purse.choosing import choose, works_of
from purse.groups import parties_of, wronged
from samples import MOST, equal_purses, small_towns, some_towns, some_wishes


def slow_wronged(coins, costs, wishes, works):
    for count in range(1, len(costs) + 1):
        for asked in itertools.combinations(range(len(costs)), count):
            group = [
                voter for voter, wanted in enumerate(wishes)
                if set(asked) <= set(wanted) and len(set(wanted) & set(works)) < count
            ]
            cost = sum(costs[work] for work in asked)
            if group and coins * len(group) >= cost * len(wishes):
                return list(asked), group
    return None


def all_lists(works):
    return [list(some) for count in range(works + 1) for some in itertools.combinations(range(works), count)]


class Wronged(unittest.TestCase):
    def tells(self, town, works, answer):
        told = wronged(*town, works)
        self.assertEqual(told, answer, (town, works))
        if told is not None:
            self.assertEqual([type(told), type(told[0]), type(told[1])], [tuple, list, list])

    def test_no_works(self):
        self.tells((MOST, [], [[]]), [], None)
        self.tells((0, [], [[]] * 20), [], None)

    def test_no_coins(self):
        self.tells((0, [1], [[0]] * 20), [], None)

    def test_just_at_the_bound_and_one_coin_beyond(self):
        self.tells((10, [10], [[0]]), [], ([0], [0]))
        self.tells((9, [10], [[0]]), [], None)
        self.tells((10, [5], [[0], []]), [], ([0], [0]))
        self.tells((9, [5], [[0], []]), [], None)
        self.tells((10, [6], [[0], []]), [], None)
        self.tells((10, [10], [[0], [0]]), [], ([0], [0, 1]))
        self.tells((9, [10], [[0], [0]]), [], None)
        self.tells((20, [13], [[0], [], [0]]), [], ([0], [0, 2]))
        self.tells((19, [13], [[0], [], [0]]), [], None)

    def test_great_numbers(self):
        self.tells((MOST, [MOST], [[0]] * 20), [], ([0], list(range(20))))
        self.tells((MOST - 1, [MOST], [[0]] * 20), [], None)
        self.tells((MOST, [MOST], [[0]] * 19 + [[]]), [], None)
        self.tells((MOST, [MOST // 20], [[]] * 19 + [[0]]), [], ([0], [19]))
        self.tells((MOST, [MOST // 20 + 1], [[]] * 19 + [[0]]), [], None)

    def test_a_done_work_wrongs_nobody(self):
        self.tells((10, [5], [[0], [0]]), [0], None)

    def test_a_work_that_nobody_wants_wrongs_nobody(self):
        self.tells((10, [1], [[], []]), [], None)

    def test_who_wants_as_many_done_works_is_not_of_the_group(self):
        # Voter 1 has another work done, and voter 0 alone can't pay.
        wishes = [[0], [0, 1]]
        self.tells((10, [6, 1], wishes), [1], None)
        self.tells((10, [5, 1], wishes), [1], ([0], [0]))
        self.tells((10, [6, 1], wishes), [], ([0], [0, 1]))

    def test_a_done_work_among_the_works(self):
        # Voter 0 has one of two works done, and their purse had both.
        wishes = [[0, 1], [0]]
        self.tells((10, [4, 1], wishes), [0], ([0, 1], [0]))
        self.tells((10, [4, 2], wishes), [0], None)
        self.tells((10, [4, 1], wishes), [0, 1], None)

    def test_the_fewest_works_go_ahead_of_the_least_list(self):
        self.tells((10, [4, 1, 5], [[0, 1], [2]]), [0], ([2], [1]))
        self.tells((10, [4, 1, 6], [[0, 1], [2]]), [0], ([0, 1], [0]))

    def test_the_least_list_of_the_fewest(self):
        self.tells((10, [5, 5, 5], [[1, 2], [2]]), [], ([1], [0]))
        # Two works each for one of three voters, each of whom has one done.
        wishes = [[0, 3], [1, 2], [0, 2]]
        self.tells((30, [5, 5, 5, 5], wishes), [0, 1], ([0, 2], [2]))
        self.tells((30, [5, 5, 6, 5], wishes), [0, 1], ([0, 3], [0]))
        self.tells((30, [5, 5, 5, 5], wishes[:2] + [[]]), [0, 1], ([0, 3], [0]))
        self.tells((30, [6, 5, 5, 5], wishes), [0, 1], ([1, 2], [1]))

    def test_all_of_eight_works_are_needed(self):
        costs = [1] * 8
        wishes = [list(range(8)), []]
        self.tells((16, costs, wishes), list(range(7)), (list(range(8)), [0]))
        self.tells((15, costs, wishes), list(range(7)), None)
        self.tells((16, costs, wishes), list(range(8)), None)

    def test_eight_works_and_twenty_voters(self):
        for coins, costs, wishes in some_towns(12, seed=30, voters=20, works=8, coins=120):
            for works in ([], list(range(0, len(costs), 2)), list(range(len(costs)))):
                self.tells((coins, costs, wishes), works, slow_wronged(coins, costs, wishes, works))
        rng = random.Random(31)
        for place in range(6):
            wishes = some_wishes(rng, 20, 8)
            costs = [rng.randrange(1, 20) for work in range(8)]
            works = sorted(rng.sample(range(8), 4))
            self.tells((100, costs, wishes), works, slow_wronged(100, costs, wishes, works))

    def test_any_works_done(self):
        for coins, costs, wishes in some_towns(100, seed=32, voters=5, works=4, coins=40, cost=12):
            for works in all_lists(len(costs)):
                self.tells((coins, costs, wishes), works, slow_wronged(coins, costs, wishes, works))

    def test_every_small_town(self):
        for coins, costs, wishes in small_towns():
            for works in all_lists(2):
                self.tells((coins, costs, wishes), works, slow_wronged(coins, costs, wishes, works))

    def test_somewhat_beyond_eight_works_is_not_refused(self):
        self.tells((20, [1] * 10, [list(range(10)), []]), list(range(9)), (list(range(10)), [0]))

    def check_choosing(self, coins, costs, wishes):
        chosen = works_of(choose(equal_purses(coins, costs, wishes), costs, wishes))
        self.tells((coins, costs, wishes), chosen, None)
        others = [work for work in range(len(costs)) if work not in chosen]
        for more in all_lists(len(others))[:20]:
            self.tells((coins, costs, wishes), sorted(chosen + [others[place] for place in more]), None)

    def test_none_of_the_works_of_the_choosing_and_with_others_beside(self):
        for town in some_towns(150, seed=33, cost=20):
            self.check_choosing(*town)
        for town in some_towns(10, seed=34, voters=20, works=8, coins=150):
            self.check_choosing(*town)
        for town in small_towns():
            self.check_choosing(*town)

    def test_with_a_work_of_the_choosing_left_out_it_is_told(self):
        # All voters want one and the same works, so that whoever lacks one lacks it rightly.
        costs = [3, 1, 2]
        wishes = [[0, 1, 2]] * 4
        for lacking in range(3):
            works = [work for work in range(3) if work != lacking]
            self.tells((6, costs, wishes), works, ([0, 1, 2], [0, 1, 2, 3]))


class Parties(unittest.TestCase):
    def test_written_out(self):
        self.assertEqual(parties_of([1, 1, 1], [[0], [1], [0, 2], [1]]), [[0, 2], [1, 3]])
        self.assertEqual(parties_of([1], [[0], [0], [0]]), [[0, 1, 2]])
        self.assertEqual(parties_of([1, 1], [[0], [1]]), [[0], [1]])

    def test_over_others(self):
        self.assertEqual(parties_of([1, 1], [[0], [1], [0, 1]]), [[0, 1, 2]])
        self.assertEqual(parties_of([1, 1, 1], [[0], [0, 1], [1, 2], [2]]), [[0, 1, 2, 3]])
        # A chain whose links are wanted in no order.
        wishes = [[5], [3, 4], [0, 1], [1, 5], [2, 3], [0, 2], [4]]
        self.assertEqual(parties_of([1] * 6, wishes), [[0, 1, 2, 3, 4, 5, 6]])
        wishes[5] = [0]
        self.assertEqual(parties_of([1] * 6, wishes), [[0, 2, 3, 5], [1, 4, 6]])

    def test_who_wants_nothing_is_alone(self):
        self.assertEqual(parties_of([], [[]]), [[0]])
        self.assertEqual(parties_of([], [[]] * 20), [[voter] for voter in range(20)])
        self.assertEqual(parties_of([1], [[], [0], [], [0], []]), [[0], [1, 3], [2], [4]])

    def test_who_wants_a_work_of_nobody_else_is_alone(self):
        self.assertEqual(parties_of([1, 1, 1], [[0], [1, 2], [0]]), [[0, 2], [1]])

    def test_by_their_least_voters(self):
        self.assertEqual(parties_of([1, 1, 1], [[2], [1], [0], [0], [1], [2]]), [[0, 5], [1, 4], [2, 3]])
        # The work of a later party is looked at first, and a greater party stands behind.
        self.assertEqual(parties_of([1, 1], [[1], [0], [0], [0], [1]]), [[0, 4], [1, 2, 3]])

    def test_costs_change_nothing(self):
        self.assertEqual(parties_of([MOST, 1], [[0], [1], [0]]), parties_of([1, MOST], [[0], [1], [0]]))

    def test_twenty_voters_and_twelve_works(self):
        wishes = [[voter % 12] for voter in range(20)]
        self.assertEqual(
            parties_of([1] * 12, wishes), [[voter, voter + 12] for voter in range(8)] + [[8], [9], [10], [11]]
        )
        wishes[19] = list(range(12))
        self.assertEqual(parties_of([1] * 12, wishes), [list(range(20))])

    def slow_parties(self, wishes):
        parties = []
        for voter in range(len(wishes)):
            if not any(voter in party for party in parties):
                party = {voter}
                for turn in wishes:
                    works = {work for member in party for work in wishes[member]}
                    party |= {other for other, wanted in enumerate(wishes) if works & set(wanted)}
                parties.append(sorted(party))
        return parties

    def test_every_small_town_and_many_others(self):
        kinds = all_lists(3)
        for wishes in itertools.product(kinds, repeat=4):
            wishes = [list(wanted) for wanted in wishes]
            self.assertEqual(parties_of([1, 1, 1], wishes), self.slow_parties(wishes), wishes)
        rng = random.Random(35)
        for place in range(100):
            wishes = [sorted(rng.sample(range(12), rng.choice([0, 1, 1, 2]))) for voter in range(20)]
            self.assertEqual(parties_of([1] * 12, wishes), self.slow_parties(wishes), wishes)


if __name__ == "__main__":
    unittest.main()
