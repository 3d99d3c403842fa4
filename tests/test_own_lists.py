"""Promise 2: what is handed in is not changed, and what is given is the asker's own."""

import copy
import unittest

from purse.grains import equal_purse, grains_of, together
from purse.levels import gathered, level_for, paid_at
from purse.towns import common_of, cost_of, is_town, purses_of, wanters_of


def calls():
    costs = [30, 50, 20]
    wishes = [[0, 1], [2], [], [0, 1, 2]]
    return [
        (together, [6]),
        (grains_of, [4, 3]),
        (equal_purse, [100, 4, 3]),
        (is_town, [100, costs, wishes]),
        (is_town, [100, costs, [[1, 0], [2, 2]]]),
        (wanters_of, [wishes, 1]),
        (common_of, [wishes, [1, 0]]),
        (common_of, [wishes, []]),
        (cost_of, [costs, [2, 0]]),
        (purses_of, [100, costs, wishes]),
        (paid_at, [[9, 1, 5], 4]),
        (paid_at, [[9, 1, 5], 100]),
        (paid_at, [[9, 1, 5], 0]),
        (gathered, [[9, 1, 5], 4]),
        (level_for, [[9, 1, 5], 7]),
        (level_for, [[9, 1, 5], 16]),
    ]


def spoil(value):
    if isinstance(value, list):
        for inner in value:
            spoil(inner)
        value.reverse()
        value.append(77)
        value[0] = 99


class OwnLists(unittest.TestCase):
    def of_each_call(self, check):
        for place in range(len(calls())):
            # Made anew for each call, so that one spoilt call spoils no other.
            function, handed = copy.deepcopy(calls()[place])
            with self.subTest(place=place, name=function.__name__):
                check(function, handed)

    def test_what_is_handed_in_is_not_changed(self):
        def check(function, handed):
            ahead = copy.deepcopy(handed)
            function(*handed)
            self.assertEqual(handed, ahead)

        self.of_each_call(check)

    def test_asked_twice_tells_the_same(self):
        def check(function, handed):
            self.assertEqual(function(*handed), function(*handed))

        self.of_each_call(check)

    def test_a_spoilt_answer_changes_nothing_told_later(self):
        def check(function, handed):
            ahead = copy.deepcopy(handed)
            told = function(*handed)
            kept = copy.deepcopy(told)
            spoil(told)
            self.assertEqual(handed, ahead)
            self.assertEqual(function(*handed), kept)

        self.of_each_call(check)

    def test_a_spoilt_argument_changes_nothing_told(self):
        def check(function, handed):
            ahead = copy.deepcopy(handed)
            told = function(*handed)
            kept = copy.deepcopy(told)
            for value in handed:
                spoil(value)
            self.assertEqual(told, kept)
            self.assertEqual(function(*ahead), kept)

        self.of_each_call(check)

    def test_a_changed_argument_is_looked_at_anew(self):
        purses = [9, 1, 5]
        self.assertEqual(level_for(purses, 15), 9)
        purses.append(9)
        self.assertEqual(level_for(purses, 15), 5)
        wishes = [[0], [1]]
        self.assertEqual(wanters_of(wishes, 1), [1])
        wishes[0].append(1)
        self.assertEqual(wanters_of(wishes, 1), [0, 1])


if __name__ == "__main__":
    unittest.main()
