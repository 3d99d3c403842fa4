"""Promise 2: what is handed in is not changed, and what is given is the asker's own."""

import copy
import unittest

from purse.chests import Chest
from purse.choosing import bought_by, choose, left_of, works_of
from purse.desk import Desk
from purse.errors import NoPaper, NoRow, PurseError, TooMuch
from purse.filling import fill, plan_of
from purse.grains import equal_purse, grains_of, together
from purse.groups import parties_of, wronged
from purse.levels import gathered, level_for, paid_at
from purse.offers import next_of, offers_of
from purse.papers import first_wrong, paper_of
from purse.texts import read_number, read_words
from purse.towns import common_of, cost_of, is_town, purses_of, wanters_of


def calls():
    costs = [30, 50, 20]
    wishes = [[0, 1], [2], [], [0, 1, 2]]
    return [
        (together, [6]),
        (grains_of, [4, 3]),
        (equal_purse, [100, 4, 3]),
        (is_town, [100, costs, wishes]),
        (is_town, [100, costs, [[1, 0], [2, 2]]]),
        (wanters_of, [wishes, 1]),
        (common_of, [wishes, [1, 0]]),
        (common_of, [wishes, []]),
        (cost_of, [costs, [2, 0]]),
        (purses_of, [100, costs, wishes]),
        (paid_at, [[9, 1, 5], 4]),
        (paid_at, [[9, 1, 5], 100]),
        (paid_at, [[9, 1, 5], 0]),
        (gathered, [[9, 1, 5], 4]),
        (level_for, [[9, 1, 5], 7]),
        (level_for, [[9, 1, 5], 16]),
        (read_words, ["propose park 30"]),
        (read_words, ["pot"]),
        (read_number, ["30"]),
    ] + calls_of_choosing(costs, wishes) + calls_of_filling(costs, wishes)


def calls_of_choosing(costs, wishes):
    purses = purses_of(100, costs, wishes)
    steps = choose(purses, costs, wishes)
    return [
        (offers_of, [purses, costs, wishes, []]),
        (offers_of, [purses, costs, wishes, [2, 0]]),
        (next_of, [[5, None, 3, 3]]),
        (next_of, [[None, None]]),
        (choose, [purses, costs, wishes]),
        (choose, [purses, [], [[]] * 4]),
        (works_of, [steps]),
        (works_of, [[]]),
        (left_of, [purses, steps]),
        (left_of, [purses, []]),
        (bought_by, [wishes, steps, 3]),
        (bought_by, [wishes, [], 2]),
        (paper_of, [[0] * 4, costs, wishes, 1]),
        (first_wrong, [purses, costs, wishes, steps]),
        (first_wrong, [purses, costs, wishes, steps[::-1]]),
        (first_wrong, [purses, costs, wishes, []]),
        (wronged, [100, costs, wishes, []]),
        (wronged, [100, costs, wishes, [0]]),
        (wronged, [100, costs, wishes, [0, 1, 2]]),
        (parties_of, [costs, wishes]),
        (parties_of, [[], [[]]]),
    ]


def calls_of_filling(costs, wishes):
    return [
        (fill, [100, costs, wishes, []]),
        (fill, [100, costs, wishes, [2, 0]]),
        (fill, [49, costs, wishes, [2]]),
        (fill, [100, costs, wishes, [2, 1, 0]]),
        (fill, [0, [], [[]], []]),
        (plan_of, [100, costs, wishes]),
        (plan_of, [49, costs, wishes]),
        (plan_of, [0, costs, wishes]),
        (plan_of, [7, [], [[], []]]),
    ]


def lists_in(value):
    if not isinstance(value, (list, tuple)):
        return []
    found = [value] if isinstance(value, list) else []
    for inner in value:
        found.extend(lists_in(inner))
    return found


def spoil(value):
    if isinstance(value, (list, tuple)):
        for inner in value:
            spoil(inner)
    if isinstance(value, list):
        value.reverse()
        value.append(77)
        value[0] = 99


class OwnLists(unittest.TestCase):
    def of_each_call(self, check):
        for place in range(len(calls())):
            # Made anew for each call, so that one spoilt call spoils no other.
            function, handed = copy.deepcopy(calls()[place])
            with self.subTest(place=place, name=function.__name__):
                check(function, handed)

    def test_what_is_handed_in_is_not_changed(self):
        def check(function, handed):
            ahead = copy.deepcopy(handed)
            function(*handed)
            self.assertEqual(handed, ahead)

        self.of_each_call(check)

    def test_asked_twice_tells_the_same(self):
        def check(function, handed):
            self.assertEqual(function(*handed), function(*handed))

        self.of_each_call(check)

    def test_a_spoilt_answer_changes_nothing_told_later(self):
        def check(function, handed):
            ahead = copy.deepcopy(handed)
            told = function(*handed)
            kept = copy.deepcopy(told)
            spoil(told)
            self.assertEqual(handed, ahead)
            self.assertEqual(function(*handed), kept)

        self.of_each_call(check)

    def test_a_spoilt_argument_changes_nothing_told(self):
        def check(function, handed):
            ahead = copy.deepcopy(handed)
            told = function(*handed)
            kept = copy.deepcopy(told)
            for value in handed:
                spoil(value)
            self.assertEqual(told, kept)
            self.assertEqual(function(*ahead), kept)

        self.of_each_call(check)

    def test_every_list_told_is_a_new_one(self):
        def check(function, handed):
            ahead = [id(inner) for inner in lists_in(handed)]
            first = function(*handed)
            second = function(*handed)
            told = [id(inner) for inner in lists_in(first) + lists_in(second)]
            self.assertEqual(len(told), len(set(told)))
            self.assertEqual(set(told) & set(ahead), set())

        self.of_each_call(check)

    def test_a_refusal_changes_nothing(self):
        purses, costs, wishes = [20, 20], [6], [[0], [0]]
        with self.assertRaises(NoPaper):
            paper_of(purses, costs, wishes, 0)
        self.assertEqual((purses, costs, wishes), ([20, 20], [6], [[0], [0]]))
        works = [0]
        with self.assertRaises(TooMuch):
            fill(5, costs, wishes, works)
        self.assertEqual((costs, wishes, works), ([6], [[0], [0]], [0]))

    def test_spoilt_steps_change_no_later_choosing(self):
        purses, costs, wishes = [43200] * 3, [30, 50, 20], [[0, 1], [2], [0, 1, 2]]
        steps = choose(purses, costs, wishes)
        kept = copy.deepcopy(steps)
        left = left_of(purses, steps)
        spoil(steps)
        self.assertEqual(left, [23760, 30240, 10800])
        self.assertEqual(choose(purses, costs, wishes), kept)
        self.assertIsNone(first_wrong(purses, costs, wishes, kept))

    def test_a_changed_argument_is_looked_at_anew(self):
        purses = [9, 1, 5]
        self.assertEqual(level_for(purses, 15), 9)
        purses.append(9)
        self.assertEqual(level_for(purses, 15), 5)
        wishes = [[0], [1]]
        self.assertEqual(wanters_of(wishes, 1), [1])
        wishes[0].append(1)
        self.assertEqual(wanters_of(wishes, 1), [0, 1])
        self.assertEqual(parties_of([1, 1], wishes), [[0, 1]])
        wishes[0].pop()
        self.assertEqual(parties_of([1, 1], wishes), [[0], [1]])
        steps = choose([20, 20], [6, 1], wishes)
        self.assertEqual(first_wrong([20, 20], [6, 1], wishes, steps), None)
        steps[0][2][1] += 1
        self.assertEqual(first_wrong([20, 20], [6, 1], wishes, steps), 0)


def year_of_chest():
    chest = Chest()
    for name in ("ann", "bob", "cid"):
        chest.enrol(name)
    for work, cost in (("park", 30), ("road", 50), ("well", 20)):
        chest.propose(work, cost)
    for voter, work in (("ann", "park"), ("ann", "road"), ("bob", "well"), ("cid", "park"), ("cid", "well")):
        chest.want(voter, work)
    chest.give(100)
    return chest


def told(chest):
    return chest.voters(), chest.works(), chest.pot(), chest.given(), chest.spent()


class KeptByChests(unittest.TestCase):
    def spoil_all(self, chest):
        for value in told(chest):
            spoil(value)

    def test_spoilt_answers_change_nothing_told_later(self):
        for chest in (Chest(), year_of_chest()):
            kept = copy.deepcopy(told(chest))
            self.spoil_all(chest)
            self.assertEqual(told(chest), kept)

    def test_spoilt_answers_change_no_deed(self):
        deeds = [
            ("want", "bob", "park"), ("unwant", "ann", "park"), ("give", 7), ("close",), ("propose", "hall", 3),
            ("want", "cid", "hall"), ("leave", "bob"), ("enrol", "bob"), ("close",), ("withdraw", "road"), ("close",),
        ]
        spoilt, other = year_of_chest(), year_of_chest()
        for deed, *words in deeds:
            self.spoil_all(spoilt)
            answer = getattr(spoilt, deed)(*words)
            self.assertEqual(answer, getattr(other, deed)(*words))
            spoil(answer)
            self.assertEqual(told(spoilt), told(other))

    def test_a_spoilt_closing(self):
        chest, other = year_of_chest(), year_of_chest()
        spoil(chest.close())
        other.close()
        self.assertEqual(told(chest), told(other))
        self.assertEqual(chest.close(), other.close())
        # Where nothing can be done the list is the asker's own too.
        for chest in (Chest(), year_of_chest()):
            for work, cost, wanters in chest.works():
                chest.withdraw(work)
            spoil(chest.close())
            self.assertEqual(chest.close(), ([], 1))
            self.assertEqual(Chest().close(), ([], 1))

    def test_later_deeds_change_nothing_told_ahead(self):
        chest = year_of_chest()
        ahead = told(chest)
        kept = copy.deepcopy(ahead)
        chest.want("bob", "park")
        chest.unwant("ann", "road")
        chest.give(50)
        closing = chest.close()
        closed = copy.deepcopy(closing)
        self.assertEqual(ahead, kept)
        chest.leave("ann")
        chest.enrol("ann")
        chest.withdraw("road")
        chest.propose("park", 5)
        chest.want("cid", "park")
        chest.close()
        self.assertEqual(ahead, kept)
        self.assertEqual(closing, closed)

    def test_every_list_told_is_a_new_one(self):
        chest = year_of_chest()
        answers = [told(chest), told(chest), chest.close(), chest.close(), told(chest), chest.close(), Chest().close()]
        found = [id(inner) for inner in lists_in(answers)]
        self.assertEqual(len(found), len(set(found)))

    def test_asking_changes_nothing(self):
        chest = year_of_chest()
        first = told(chest)
        for turn in range(3):
            self.assertEqual(told(chest), first)

    def test_asking_a_desk_changes_nothing(self):
        desk = Desk()
        for row in ("enrol ann", "give 7", "propose park 5", "want ann park"):
            desk.say(row)
        rows = ["works", "pot", "given", "spent", "purse ann"]
        first = [desk.say(row) for row in rows]
        for row in ("purse zed", "works now", "give x", "propose park 1"):
            with self.assertRaises(PurseError):
                desk.say(row)
        self.assertEqual([desk.say(row) for row in rows], first)

    def test_spoilt_words_change_nothing_read_later(self):
        words = read_words("give 5")
        spoil(words)
        self.assertEqual(read_words("give 5"), ["give", "5"])
        with self.assertRaises(NoRow):
            read_words("give  5")
        self.assertEqual(read_words("give 5"), ["give", "5"])


if __name__ == "__main__":
    unittest.main()
