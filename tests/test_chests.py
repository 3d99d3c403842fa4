"""Promises 24 to 28: purse/chests.py."""

import itertools
import random
import unittest

from purse import errors
from purse.chests import Chest
from purse.errors import Full, NoName, NoVoter, NoWork, TooMuch, Twice
from samples import SlowChest

LEAST_NAMES = [chr(code) for code in range(ord("a"), ord("z") + 1)]
NO_NAMES = [
    "", "abcdefghi", "abcdefgh" * 20, "A", "Ann", "anN", "ann1", "1", "a-b", "a_b", "_", "a b", " ", " ann", "ann ",
    "ann\t", "\tann", "ann\n", "\nann", "an\nn", "\n", "\t", "{", "`", "a{", "z`", "ann.", "-", "@", "[",
]
MOST_AT_ONCE = 10 ** 9


def told(chest):
    return chest.voters(), chest.works(), chest.pot(), chest.given(), chest.spent()


def chest_of(voters=(), works=(), wishes=(), coins=0):
    """A chest of voters, works (name, cost), wishes (voter, work) and one gift."""
    chest = Chest()
    for name in voters:
        chest.enrol(name)
    for work, cost in works:
        chest.propose(work, cost)
    for voter, work in wishes:
        chest.want(voter, work)
    chest.give(coins)
    return chest


def small_chest():
    return chest_of(
        ["ann", "bob", "cid"],
        [("park", 30), ("road", 50), ("well", 20)],
        [("ann", "park"), ("ann", "road"), ("bob", "well"), ("cid", "park"), ("cid", "road"), ("cid", "well")],
        100,
    )


class Orders(unittest.TestCase):
    def test_at_first_there_is_nothing(self):
        self.assertEqual(told(Chest()), ([], [], 0, 0, 0))

    def test_two_chests_keep_each_their_own(self):
        one, two = Chest(), Chest()
        one.enrol("ann")
        one.propose("park", 3)
        one.want("ann", "park")
        one.give(5)
        self.assertEqual(told(two), ([], [], 0, 0, 0))
        two.enrol("bob")
        self.assertEqual(told(one), ([("ann", 5)], [("park", 3, ["ann"])], 0, 5, 0))

    def test_voters_in_the_order_of_enrolling(self):
        chest = chest_of(["cid", "ann", "bob"])
        self.assertEqual(chest.voters(), [("cid", 0), ("ann", 0), ("bob", 0)])

    def test_works_in_the_order_of_proposing(self):
        chest = chest_of(works=[("well", 3), ("park", 9), ("road", 1)])
        self.assertEqual(chest.works(), [("well", 3, []), ("park", 9, []), ("road", 1, [])])

    def test_wanters_in_the_order_of_the_voters(self):
        wishes = [("bob", "park"), ("ann", "park"), ("cid", "park")]
        for row in itertools.permutations(wishes):
            chest = chest_of(["cid", "ann", "bob"], [("park", 9)], row)
            self.assertEqual(chest.works(), [("park", 9, ["cid", "ann", "bob"])])

    def test_kinds(self):
        chest = small_chest()
        self.assertIs(type(chest.voters()), list)
        for row in chest.voters():
            self.assertEqual([type(part) for part in (row, *row)], [tuple, str, int])
        self.assertIs(type(chest.works()), list)
        for row in chest.works():
            self.assertEqual([type(part) for part in (row, *row)], [tuple, str, int, list])
        self.assertEqual([type(part) for part in (chest.pot(), chest.given(), chest.spent())], [int] * 3)

    def test_deeds_tell_none(self):
        chest = Chest()
        self.assertIsNone(chest.enrol(name="ann"))
        self.assertIsNone(chest.propose(work="park", cost=5))
        self.assertIsNone(chest.give(coins=3))
        self.assertIsNone(chest.want(voter="ann", work="park"))
        self.assertIsNone(chest.unwant(voter="ann", work="park"))
        self.assertIsNone(chest.withdraw(work="park"))
        self.assertIsNone(chest.leave(name="ann"))

    def test_voters_and_works_have_names_each_by_themselves(self):
        chest = chest_of(["park", "ann"], [("ann", 2), ("park", 4)], [("park", "park"), ("ann", "park")])
        self.assertEqual(chest.works(), [("ann", 2, []), ("park", 4, ["park", "ann"])])
        chest.leave("park")
        self.assertEqual(chest.works(), [("ann", 2, []), ("park", 4, ["ann"])])
        chest.withdraw("ann")
        self.assertEqual(chest.works(), [("park", 4, ["ann"])])
        self.assertEqual(chest.voters(), [("ann", 0)])

    def test_names_of_one_to_eight_letters(self):
        chest = Chest()
        for name in ("a", "z", "ab", "abcdefgh", "zzzzzzzz", "stuvwxyz", "ijklmnop", "qr"):
            chest.enrol(name)
            chest.propose(name, 1)
        self.assertEqual([row[0] for row in chest.voters()], [row[0] for row in chest.works()])
        self.assertEqual(len(chest.voters()), 8)


class Leaving(unittest.TestCase):
    def test_the_purse_goes_into_the_pot(self):
        chest = chest_of(["ann", "bob"], coins=11)
        chest.leave("ann")
        self.assertEqual(told(chest), ([("bob", 5)], [], 6, 11, 0))
        chest.leave("bob")
        self.assertEqual(told(chest), ([], [], 11, 11, 0))

    def test_the_wishes_are_forgotten(self):
        chest = chest_of(["ann", "bob"], [("park", 9)], [("ann", "park"), ("bob", "park")])
        chest.leave("ann")
        self.assertEqual(chest.works(), [("park", 9, ["bob"])])
        chest.enrol("ann")
        self.assertEqual(chest.works(), [("park", 9, ["bob"])])

    def test_enrolled_again_behind_all_others(self):
        chest = chest_of(["ann", "bob", "cid"], [("park", 9)], [("bob", "park")], 9)
        chest.leave("ann")
        chest.enrol("ann")
        self.assertEqual(chest.voters(), [("bob", 3), ("cid", 3), ("ann", 0)])
        self.assertEqual(chest.pot(), 3)
        chest.want("ann", "park")
        self.assertEqual(chest.works(), [("park", 9, ["bob", "ann"])])

    def test_who_left_is_no_voter(self):
        chest = chest_of(["ann", "bob"], [("park", 9)])
        chest.leave("ann")
        with self.assertRaises(NoVoter):
            chest.leave("ann")
        with self.assertRaises(NoVoter):
            chest.want("ann", "park")

    def test_there_is_place_for_another(self):
        chest = chest_of(LEAST_NAMES[:20])
        chest.leave("c")
        chest.enrol("zed")
        self.assertEqual([row[0] for row in chest.voters()], ["a", "b"] + LEAST_NAMES[3:20] + ["zed"])


class Giving(unittest.TestCase):
    def after(self, voters, gifts):
        chest = chest_of(LEAST_NAMES[:voters])
        for coins in gifts:
            chest.give(coins)
        self.assertEqual(chest.given(), sum(gifts))
        purses = [purse for name, purse in chest.voters()]
        self.assertEqual(sum(purses) + chest.pot(), sum(gifts))
        return purses, chest.pot()

    def test_no_voters(self):
        self.assertEqual(self.after(0, [7]), ([], 7))
        self.assertEqual(self.after(0, [7, 0, 5]), ([], 12))

    def test_shared_alike(self):
        self.assertEqual(self.after(3, [9]), ([3, 3, 3], 0))
        self.assertEqual(self.after(3, [10]), ([3, 3, 3], 1))
        self.assertEqual(self.after(3, [11]), ([3, 3, 3], 2))
        self.assertEqual(self.after(1, [11]), ([11], 0))

    def test_fewer_coins_than_voters(self):
        self.assertEqual(self.after(20, [19]), ([0] * 20, 19))
        self.assertEqual(self.after(20, [20]), ([1] * 20, 0))
        self.assertEqual(self.after(2, [1]), ([0, 0], 1))

    def test_with_a_pot(self):
        self.assertEqual(self.after(3, [2, 2]), ([1, 1, 1], 1))
        self.assertEqual(self.after(3, [2, 1]), ([1, 1, 1], 0))
        self.assertEqual(self.after(3, [11, 3]), ([4, 4, 4], 2))
        self.assertEqual(self.after(20, [19, 19, 19]), ([2] * 20, 17))

    def test_unlike_purses_get_alike(self):
        chest = chest_of(["ann"], coins=5)
        chest.enrol("bob")
        chest.give(9)
        self.assertEqual(told(chest), ([("ann", 9), ("bob", 4)], [], 1, 14, 0))

    def test_nothing_given_shares_the_pot_anew(self):
        chest = Chest()
        chest.give(7)
        chest.enrol("ann")
        chest.enrol("bob")
        self.assertEqual(chest.pot(), 7)
        chest.give(0)
        self.assertEqual(told(chest), ([("ann", 3), ("bob", 3)], [], 1, 7, 0))
        chest.give(0)
        self.assertEqual(told(chest), ([("ann", 3), ("bob", 3)], [], 1, 7, 0))
        chest.leave("ann")
        chest.give(0)
        self.assertEqual(told(chest), ([("bob", 7)], [], 0, 7, 0))

    def test_the_most_at_once(self):
        self.assertEqual(self.after(1, [MOST_AT_ONCE]), ([MOST_AT_ONCE], 0))
        self.assertEqual(self.after(3, [MOST_AT_ONCE]), ([333333333] * 3, 1))

    def test_a_thousand_gifts(self):
        self.assertEqual(self.after(7, [MOST_AT_ONCE] * 1000), ([142857142857] * 7, 1))


class Wishing(unittest.TestCase):
    def test_want_and_unwant(self):
        chest = chest_of(["ann", "bob"], [("park", 9), ("road", 4)])
        chest.want("bob", "road")
        self.assertEqual(chest.works(), [("park", 9, []), ("road", 4, ["bob"])])
        chest.want("ann", "road")
        chest.want("ann", "park")
        self.assertEqual(chest.works(), [("park", 9, ["ann"]), ("road", 4, ["ann", "bob"])])
        chest.unwant("ann", "road")
        self.assertEqual(chest.works(), [("park", 9, ["ann"]), ("road", 4, ["bob"])])

    def test_a_wish_that_is_there_already(self):
        chest = chest_of(["ann", "bob"], [("park", 9)], [("ann", "park"), ("bob", "park")])
        chest.want("ann", "park")
        self.assertEqual(chest.works(), [("park", 9, ["ann", "bob"])])
        chest.unwant("ann", "park")
        self.assertEqual(chest.works(), [("park", 9, ["bob"])])

    def test_a_wish_that_is_none(self):
        chest = chest_of(["ann", "bob"], [("park", 9), ("road", 4)], [("ann", "park"), ("bob", "road")])
        ahead = told(chest)
        chest.unwant("bob", "park")
        chest.unwant("ann", "road")
        self.assertEqual(told(chest), ahead)

    def test_a_withdrawn_work(self):
        chest = chest_of(
            ["ann", "bob"], [("park", 9), ("road", 4), ("well", 1)], [("ann", "park"), ("bob", "park"), ("bob", "road")]
        )
        chest.withdraw("park")
        self.assertEqual(chest.works(), [("road", 4, ["bob"]), ("well", 1, [])])
        with self.assertRaises(NoWork):
            chest.want("ann", "park")
        with self.assertRaises(NoWork):
            chest.withdraw("park")
        chest.propose("park", 8)
        self.assertEqual(chest.works(), [("road", 4, ["bob"]), ("well", 1, []), ("park", 8, [])])

    def test_withdrawing_moves_no_coins(self):
        chest = small_chest()
        ahead = told(chest)
        for work in ("park", "road", "well"):
            chest.withdraw(work)
        self.assertEqual(told(chest), (ahead[0], [], *ahead[2:]))

    def test_a_withdrawn_work_leaves_a_place(self):
        chest = chest_of(works=[(name, 1) for name in LEAST_NAMES[:12]])
        chest.withdraw("a")
        chest.propose("zed", 1)
        self.assertEqual([row[0] for row in chest.works()], LEAST_NAMES[1:12] + ["zed"])


class Refusals(unittest.TestCase):
    def refuses(self, kind, chest, deed, *words):
        ahead = told(chest)
        with self.assertRaises(kind, msg=f"{deed} {words[0]!r}" if isinstance(words[0], str) else deed) as caught:
            getattr(chest, deed)(*words)
        self.assertIs(type(caught.exception), kind)
        self.assertEqual(told(chest), ahead)

    def full(self):
        return chest_of(LEAST_NAMES[:20], [(name, 5) for name in LEAST_NAMES[:12]], [("a", "a"), ("b", "c")], 50)

    def test_no_name(self):
        for chest in (Chest(), small_chest()):
            for name in NO_NAMES:
                self.refuses(NoName, chest, "enrol", name)
                self.refuses(NoName, chest, "propose", name, 5)

    def test_twice(self):
        chest = small_chest()
        for name in ("ann", "bob", "cid"):
            self.refuses(Twice, chest, "enrol", name)
        for work in ("park", "road", "well"):
            self.refuses(Twice, chest, "propose", work, 5)
        chest.enrol("park")
        chest.propose("ann", 5)

    def test_no_voter(self):
        for chest in (Chest(), small_chest()):
            for name in NO_NAMES + ["an", "annn", "zed", "park"]:
                self.refuses(NoVoter, chest, "leave", name)
                self.refuses(NoVoter, chest, "want", name, "park")
                self.refuses(NoVoter, chest, "unwant", name, "park")

    def test_no_work(self):
        chest = small_chest()
        for work in NO_NAMES + ["par", "parks", "zed", "ann"]:
            self.refuses(NoWork, chest, "withdraw", work)
            self.refuses(NoWork, Chest(), "withdraw", work)
            self.refuses(NoWork, chest, "want", "ann", work)
            self.refuses(NoWork, chest, "unwant", "ann", work)

    def test_coins_given(self):
        for chest in (Chest(), small_chest()):
            for coins in (-1, -MOST_AT_ONCE, MOST_AT_ONCE + 1, 10 ** 12, 10 ** 5000, -10 ** 5000):
                self.refuses(TooMuch, chest, "give", coins)
        for coins in (0, 1, MOST_AT_ONCE):
            chest = Chest()
            chest.give(coins)
            self.assertEqual(chest.given(), coins)

    def test_costs(self):
        for chest in (Chest(), small_chest()):
            for cost in (0, -1, MOST_AT_ONCE + 1, 10 ** 12, 10 ** 5000, -10 ** 5000):
                self.refuses(TooMuch, chest, "propose", "hall", cost)
        chest = chest_of(works=[("hall", 1), ("gate", MOST_AT_ONCE)])
        self.assertEqual(chest.works(), [("hall", 1, []), ("gate", MOST_AT_ONCE, [])])

    def test_full(self):
        chest = self.full()
        self.refuses(Full, chest, "enrol", "zed")
        self.refuses(Full, chest, "propose", "zed", 5)
        # Each by themselves: the one is full and the other is not.
        voters = chest_of(LEAST_NAMES[:20], [(name, 5) for name in LEAST_NAMES[:11]])
        self.refuses(Full, voters, "enrol", "zed")
        voters.propose("zed", 5)
        works = chest_of(LEAST_NAMES[:19], [(name, 5) for name in LEAST_NAMES[:12]])
        self.refuses(Full, works, "propose", "zed", 5)
        works.enrol("zed")
        self.assertEqual([len(voters.works()), len(works.voters())], [12, 20])

    def test_no_name_ahead_of_the_cost_and_of_full(self):
        for chest in (Chest(), self.full()):
            self.refuses(NoName, chest, "enrol", "Zed")
            self.refuses(NoName, chest, "propose", "Zed", 5)
            self.refuses(NoName, chest, "propose", "Zed", 0)
            self.refuses(NoName, chest, "propose", "", MOST_AT_ONCE + 1)

    def test_twice_ahead_of_the_cost_and_of_full(self):
        self.refuses(Twice, small_chest(), "propose", "park", 0)
        self.refuses(Twice, self.full(), "propose", "c", 0)
        self.refuses(Twice, self.full(), "propose", "c", MOST_AT_ONCE + 1)
        self.refuses(Twice, self.full(), "propose", "c", 5)
        self.refuses(Twice, self.full(), "enrol", "c")

    def test_the_cost_ahead_of_full(self):
        for cost in (0, -1, MOST_AT_ONCE + 1):
            self.refuses(TooMuch, self.full(), "propose", "zed", cost)

    def test_the_voter_ahead_of_the_work(self):
        for deed in ("want", "unwant"):
            for chest in (Chest(), small_chest()):
                self.refuses(NoVoter, chest, deed, "zed", "zed")
                self.refuses(NoVoter, chest, deed, "", "")
                # Changed round: a work where a voter is asked, and a voter where a work is.
                self.refuses(NoVoter, chest, deed, "park", "ann")

    def test_what_is_refused_changes_no_closing(self):
        chest, other = small_chest(), small_chest()
        for deed, *words in (
            ["enrol", "ann"], ["enrol", "Zed"], ["propose", "park", 7], ["propose", "hall", 0], ["leave", "zed"],
            ["withdraw", "hall"], ["want", "zed", "park"], ["want", "bob", "hall"], ["unwant", "ann", "hall"],
            ["unwant", "zed", "park"], ["give", -1], ["give", MOST_AT_ONCE + 1], ["want", "Bob", "road"],
        ):
            with self.assertRaises(errors.PurseError):
                getattr(chest, deed)(*words)
        self.assertEqual(chest.close(), other.close())
        self.assertEqual(told(chest), told(other))


class Closing(unittest.TestCase):
    def closes(self, chest, answer):
        closing = chest.close()
        self.assertEqual(closing, answer)
        self.assertEqual([type(closing), type(closing[0]), type(closing[1])], [tuple, list, int])
        for row in closing[0]:
            self.assertEqual([type(part) for part in (row, *row)], [tuple, str, int, list])
            for payer in row[2]:
                self.assertEqual([type(part) for part in (payer, *payer)], [tuple, str, int])

    def test_without_voters(self):
        chest = chest_of(works=[("park", 3)], coins=9)
        self.closes(chest, ([], 1))
        self.assertEqual(told(chest), ([], [("park", 3, [])], 9, 9, 0))
        self.closes(Chest(), ([], 1))

    def test_without_works(self):
        chest = chest_of(["ann", "bob", "cid"], coins=10)
        self.closes(chest, ([], 1))
        self.assertEqual(told(chest), ([("ann", 3), ("bob", 3), ("cid", 3)], [], 1, 10, 0))

    def test_with_nothing_done_the_grains_are_told(self):
        chest = chest_of(["ann"], [("park", 3)], coins=9)
        self.closes(chest, ([], 1))
        chest = chest_of(["ann", "bob"], [("park", 3)], coins=9)
        self.closes(chest, ([], 4))
        chest = chest_of(["ann", "bob", "cid"], [("park", 10), ("road", 3)], [("ann", "park"), ("bob", "park")], 14)
        ahead = told(chest)
        self.closes(chest, ([], 216))
        self.assertEqual(told(chest), ahead)
        chest = chest_of(LEAST_NAMES[:20], [(name, 1) for name in LEAST_NAMES[:12]])
        self.closes(chest, ([], 232792560 ** 13))

    def test_written_out(self):
        chest = small_chest()
        # 33 coins each and one in the pot; a coin is 6 ** 4 grains.
        rows = [
            ("well", 20, [("bob", 12960), ("cid", 12960)]),
            ("park", 30, [("ann", 19440), ("cid", 19440)]),
        ]
        self.closes(chest, (rows, 1296))
        voters = [("ann", 18), ("bob", 23), ("cid", 8)]
        self.assertEqual(told(chest), (voters, [("road", 50, ["ann", "cid"])], 1, 100, 50))

    def test_below_a_coin_goes_into_the_pot(self):
        # Three share 4 coins: each pays a coin and a third and has 3 and two thirds left.
        wishes = [("ann", "park"), ("bob", "park"), ("cid", "park")]
        chest = chest_of(["ann", "bob", "cid"], [("park", 4)], wishes, 15)
        self.closes(chest, ([("park", 4, [("ann", 48), ("bob", 48), ("cid", 48)])], 36))
        self.assertEqual(told(chest), ([("ann", 3), ("bob", 3), ("cid", 3)], [], 2, 15, 4))

    def test_the_pot_is_no_purse(self):
        chest = chest_of(works=[("park", 4)], coins=15)
        chest.enrol("ann")
        chest.want("ann", "park")
        self.closes(chest, ([], 1))
        self.assertEqual(chest.pot(), 15)
        chest.give(0)
        self.closes(chest, ([("park", 4, [("ann", 4)])], 1))
        self.assertEqual(told(chest), ([("ann", 11)], [], 0, 15, 4))

    def test_who_paid_nothing_is_not_told(self):
        # Bob's purse is empty, cid does not want the park.
        chest = chest_of(["ann"], coins=9)
        chest.enrol("cid")
        chest.enrol("bob")
        chest.propose("park", 9)
        chest.want("bob", "park")
        chest.want("ann", "park")
        self.closes(chest, ([("park", 9, [("ann", 324)])], 36))
        self.assertEqual(told(chest), ([("ann", 0), ("cid", 0), ("bob", 0)], [], 0, 9, 9))

    def test_rows_in_the_order_of_the_voters(self):
        chest = chest_of(["dan", "ann", "cid"], [("park", 3)], [("cid", "park"), ("ann", "park"), ("dan", "park")], 3)
        chest.leave("ann")
        chest.enrol("ann")
        chest.want("ann", "park")
        chest.give(2)
        self.closes(chest, ([("park", 3, [("dan", 36), ("cid", 36), ("ann", 36)])], 36))

    def test_works_in_the_steps_order_and_alike_ones_by_theirs(self):
        works = [("well", 4), ("park", 4), ("road", 2)]
        chest = chest_of(["ann"], works, [("ann", work) for work, cost in works], 10)
        self.closes(chest, ([("road", 2, [("ann", 2)]), ("well", 4, [("ann", 4)]), ("park", 4, [("ann", 4)])], 1))
        # Withdrawn and proposed again, it stands behind the other.
        chest = chest_of(["ann"], works, [("ann", work) for work, cost in works], 6)
        chest.withdraw("well")
        chest.propose("well", 4)
        chest.want("ann", "well")
        self.closes(chest, ([("road", 2, [("ann", 2)]), ("park", 4, [("ann", 4)])], 1))

    def test_the_grains_are_those_ahead_of_the_closing(self):
        chest = small_chest()
        chest.withdraw("road")
        self.assertEqual(chest.close()[1], 216)
        self.assertEqual(chest.close(), ([], 1))
        chest.propose("hall", 1000)
        self.assertEqual(chest.close(), ([], 36))

    def test_a_work_done_may_be_proposed_again(self):
        chest = small_chest()
        chest.close()
        with self.assertRaises(NoWork):
            chest.want("ann", "park")
        with self.assertRaises(NoWork):
            chest.withdraw("well")
        with self.assertRaises(Twice):
            chest.propose("road", 5)
        chest.propose("park", 7)
        self.assertEqual(chest.works(), [("road", 50, ["ann", "cid"]), ("park", 7, [])])
        chest.want("bob", "park")
        self.closes(chest, ([("park", 7, [("bob", 1512)])], 216))
        self.assertEqual(chest.voters(), [("ann", 18), ("bob", 16), ("cid", 8)])
        self.assertEqual([chest.pot(), chest.given(), chest.spent()], [1, 100, 57])

    def test_works_done_leave_places(self):
        names = LEAST_NAMES[:12]
        chest = chest_of(["ann"], [(name, 1) for name in names], [("ann", name) for name in names], 12)
        self.closes(chest, ([(name, 1, [("ann", 1)]) for name in names], 1))
        for name in names:
            chest.propose(name, 2)
        self.assertEqual(chest.works(), [(name, 2, []) for name in names])

    def test_a_just_price_and_one_coin_more(self):
        wishes = [("ann", "park"), ("bob", "park")]
        chest = chest_of(["ann", "bob"], [("park", 10)], wishes, 11)
        self.assertEqual(chest.close()[0], [("park", 10, [("ann", 20), ("bob", 20)])])
        self.assertEqual(told(chest), ([("ann", 0), ("bob", 0)], [], 1, 11, 10))
        chest = chest_of(["ann", "bob"], [("park", 11)], wishes, 11)
        self.closes(chest, ([], 4))
        self.assertEqual(told(chest), ([("ann", 5), ("bob", 5)], [("park", 11, ["ann", "bob"])], 1, 11, 0))

    def test_great_numbers(self):
        names = LEAST_NAMES[:20]
        chest = chest_of(names, [("park", MOST_AT_ONCE)], [(name, "park") for name in names[:19]])
        for gift in range(1000):
            chest.give(MOST_AT_ONCE)
        # The purses are 50 * 10 ** 9 each; a nineteenth of the cost is no whole coin.
        grains = 232792560 ** 2
        part = MOST_AT_ONCE * grains // 19
        self.closes(chest, ([("park", MOST_AT_ONCE, [(name, part) for name in names[:19]])], grains))
        left = 50 * MOST_AT_ONCE - MOST_AT_ONCE // 19 - 1
        self.assertEqual(chest.voters(), [(name, left) for name in names[:19]] + [(names[19], 50 * MOST_AT_ONCE)])
        self.assertEqual(chest.pot(), 19 - MOST_AT_ONCE % 19)
        self.assertEqual([chest.given(), chest.spent()], [1000 * MOST_AT_ONCE, MOST_AT_ONCE])


class Years(unittest.TestCase):
    """Chests over many years, each deed held against a slow chest."""

    def some_deed(self, rng, names):
        deed = rng.choice(["want"] * 12 + ["enrol", "propose"] * 4 + ["give"] * 3 + ["unwant", "leave", "withdraw"])
        name, work = [rng.choice(NO_NAMES if rng.random() < 0.03 else names) for word in range(2)]
        if deed == "propose":
            return deed, (work, rng.choice([0, 1, 2, 5, 7, 11, rng.randrange(1, 60), MOST_AT_ONCE + 1]))
        if deed == "give":
            return deed, (rng.choice([0, 1, -1, 3, 10, rng.randrange(200)]),)
        if deed in ("want", "unwant"):
            return deed, (name, work)
        return deed, (work if deed == "withdraw" else name,)

    def compare(self, chest, slow, deed, words):
        expected = slow.do(deed, words)
        if isinstance(expected, str):
            with self.assertRaises(getattr(errors, expected)):
                getattr(chest, deed)(*words)
        else:
            self.assertEqual(getattr(chest, deed)(*words), expected)
        self.assertEqual(told(chest), slow.told())
        purses = sum(purse for name, purse in chest.voters())
        self.assertEqual(chest.given(), chest.spent() + purses + chest.pot())
        return expected

    def run_years(self, seed, years, deeds, names):
        rng = random.Random(seed)
        chest, slow = Chest(), SlowChest()
        done = 0
        for year in range(years):
            for place in range(rng.randrange(deeds)):
                self.compare(chest, slow, *self.some_deed(rng, names))
            rows, grains = self.compare(chest, slow, "close", ())
            done += len(rows)
            for work, cost, payers in rows:
                self.assertEqual(sum(part for voter, part in payers), cost * grains)
            # Closing again at once does no work and moves nothing.
            ahead = told(chest)
            self.assertEqual(self.compare(chest, slow, "close", ())[0], [])
            self.assertEqual(told(chest), ahead)
        return done

    def test_few_names(self):
        done = sum(self.run_years(seed, 30, 40, LEAST_NAMES[:6]) for seed in range(12))
        self.assertGreater(done, 100)

    def test_many_names(self):
        done = sum(self.run_years(seed, 12, 150, LEAST_NAMES) for seed in range(20, 24))
        self.assertGreater(done, 40)

    def test_many_years(self):
        self.assertGreater(self.run_years(30, 300, 20, LEAST_NAMES[:4]), 100)


if __name__ == "__main__":
    unittest.main()
