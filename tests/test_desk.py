"""Promises 29 and 30: purse/desk.py."""

import random
import unittest

from purse import errors
from purse.desk import Desk
from purse.errors import Full, NoName, NoRow, NoVoter, NoWork, TooMuch, Twice
from samples import SlowChest

NAMES = [chr(code) for code in range(ord("a"), ord("z") + 1)]
TOWN = (
    "enrol ann", "enrol bob", "enrol cid", "give 100",
    "propose park 30", "propose road 50", "propose well 20",
    "want ann park", "want ann road", "want bob well", "want cid park", "want cid road", "want cid well",
)
NO_NUMBERS = [
    "-1", "+1", "01", "00", "x", "1a", "1.5", "1_0", "10000000000000", "99999999999999", "1\n", "\t1", "\n", "ten",
    "-", "1e3",
]
# Each deed with as many words as it has, all of them known to the town above.
RIGHT = [
    "enrol dan", "leave ann", "give 5", "propose hall 9", "withdraw park", "want bob park", "unwant ann park",
    "close", "purse ann", "pot", "given", "spent", "works",
]


def desk_of(rows):
    desk = Desk()
    for row in rows:
        desk.say(row)
    return desk


def all_told(desk, names=("ann", "bob", "cid")):
    return [desk.say(row) for row in ["works", "pot", "given", "spent"] + [f"purse {name}" for name in names]]


class Answers(unittest.TestCase):
    def talk(self, desk, pairs):
        for row, answer in pairs:
            told = desk.say(row)
            self.assertEqual(told, answer, row)
            self.assertIs(type(told), str)

    def test_at_first_there_is_nothing(self):
        self.talk(Desk(), [
            ("works", "none"), ("pot", "0"), ("given", "0"), ("spent", "0"), ("close", "none"),
        ])

    def test_each_deed_is_answered_ok(self):
        self.talk(Desk(), [(row, "ok") for row in TOWN])
        self.talk(desk_of(TOWN), [
            ("unwant ann park", "ok"), ("unwant ann park", "ok"), ("want ann park", "ok"), ("want ann park", "ok"),
            ("withdraw park", "ok"), ("leave ann", "ok"), ("give 0", "ok"), ("enrol ann", "ok"),
            ("propose park 1", "ok"),
        ])

    def test_a_year(self):
        self.talk(desk_of(TOWN), [
            ("works", "park 30 ann+cid, road 50 ann+cid, well 20 bob+cid"),
            ("pot", "1"), ("given", "100"), ("spent", "0"),
            ("purse ann", "33"), ("purse bob", "33"), ("purse cid", "33"),
            ("close", "well 20: bob 12960, cid 12960; park 30: ann 19440, cid 19440 of 1296"),
            ("works", "road 50 ann+cid"),
            ("pot", "1"), ("given", "100"), ("spent", "50"),
            ("purse ann", "18"), ("purse bob", "23"), ("purse cid", "8"),
            ("close", "none"),
        ])

    def test_works(self):
        self.talk(Desk(), [
            ("enrol bob", "ok"), ("enrol ann", "ok"), ("works", "none"),
            ("propose road 7", "ok"), ("works", "road 7 -"),
            ("propose park 1000000000", "ok"), ("works", "road 7 -, park 1000000000 -"),
            ("want ann park", "ok"), ("works", "road 7 -, park 1000000000 ann"),
            ("want bob park", "ok"), ("works", "road 7 -, park 1000000000 bob+ann"),
            ("want ann road", "ok"), ("works", "road 7 ann, park 1000000000 bob+ann"),
            ("withdraw road", "ok"), ("works", "park 1000000000 bob+ann"),
            ("leave bob", "ok"), ("leave ann", "ok"), ("works", "park 1000000000 -"),
            ("withdraw park", "ok"), ("works", "none"),
        ])

    def test_closings(self):
        self.talk(Desk(), [
            ("enrol ann", "ok"), ("give 9", "ok"), ("propose park 4", "ok"), ("close", "none"),
            ("want ann park", "ok"), ("close", "park 4: ann 4 of 1"), ("close", "none"),
            ("enrol bob", "ok"), ("give 10", "ok"), ("purse ann", "10"), ("purse bob", "5"),
            ("propose park 3", "ok"), ("want bob park", "ok"), ("close", "park 3: bob 12 of 4"),
            ("propose park 3", "ok"), ("want bob park", "ok"), ("want ann park", "ok"),
            ("close", "park 3: ann 6, bob 6 of 4"),
            ("purse ann", "8"), ("purse bob", "0"), ("pot", "1"), ("given", "19"), ("spent", "10"),
        ])

    def test_three_works_and_the_grains_once(self):
        desk = Desk()
        for row in ("enrol ann", "give 9", "propose c 3", "propose a 2", "propose b 4"):
            desk.say(row)
        for work in "abc":
            desk.say(f"want ann {work}")
        self.talk(desk, [("close", "a 2: ann 2; c 3: ann 3; b 4: ann 4 of 1"), ("pot", "0"), ("purse ann", "0")])

    def test_who_paid_nothing_is_not_told(self):
        self.talk(Desk(), [
            ("enrol ann", "ok"), ("give 9", "ok"), ("enrol bob", "ok"), ("propose park 4", "ok"),
            ("want ann park", "ok"), ("want bob park", "ok"), ("close", "park 4: ann 16 of 4"),
        ])

    def test_give_shares_the_pot(self):
        self.talk(Desk(), [
            ("give 7", "ok"), ("pot", "7"), ("enrol ann", "ok"), ("enrol bob", "ok"), ("purse ann", "0"),
            ("give 0", "ok"), ("purse ann", "3"), ("pot", "1"), ("leave ann", "ok"), ("pot", "4"), ("given", "7"),
        ])

    def test_great_numbers(self):
        self.talk(Desk(), [("give 1000000000", "ok")] * 1000 + [
            ("pot", "1000000000000"), ("given", "1000000000000"),
            ("enrol ann", "ok"), ("give 0", "ok"), ("purse ann", "1000000000000"),
        ])
        desk = desk_of([f"enrol {name}" for name in NAMES[:20]] + [f"propose {name} 1000000000" for name in NAMES[:12]])
        for name in NAMES[:20]:
            desk.say(f"want {name} a")
            desk.say("give 1000000000")
        grains = 232792560 ** 13
        payers = ", ".join(f"{name} {50000000 * grains}" for name in NAMES[:20])
        self.talk(desk, [("close", f"a 1000000000: {payers} of {grains}")])

    def test_two_desks_keep_each_their_own(self):
        one, two = Desk(), Desk()
        one.say("give 5")
        self.talk(two, [("pot", "0")])
        self.talk(one, [("pot", "5")])

    def test_names_like_deeds(self):
        self.talk(Desk(), [
            ("enrol enrol", "ok"), ("enrol close", "ok"), ("propose give 5", "ok"), ("want close give", "ok"),
            ("works", "give 5 close"), ("purse enrol", "0"), ("leave enrol", "ok"), ("withdraw give", "ok"),
        ])


class Refusals(unittest.TestCase):
    def refuses(self, kind, desk, row):
        ahead = all_told(desk)
        with self.assertRaises(kind, msg=repr(row)) as caught:
            desk.say(row)
        self.assertIs(type(caught.exception), kind)
        self.assertEqual(all_told(desk), ahead)

    def refuses_all(self, kind, rows):
        desk = desk_of(TOWN)
        for row in rows:
            self.refuses(kind, desk, row)
        # What was refused changed no closing either.
        self.assertEqual(desk.say("close"), desk_of(TOWN).say("close"))

    def test_blanks(self):
        rows = ["", " ", "  "]
        for row in RIGHT:
            rows += [f" {row}", f"{row} ", f"  {row}", f"{row}  ", f" {row} "]
            if " " in row:
                rows += [row.replace(" ", "  ", 1), row.replace(" ", "   "), row.replace(" ", "\t"),
                         row.replace(" ", "\n"), row.replace(" ", " \t ", 1)]
        self.refuses_all(NoRow, rows)

    def test_too_many_words(self):
        self.refuses_all(NoRow, [f"{row} ann" for row in RIGHT] + [f"{row} 5" for row in RIGHT])
        self.refuses_all(NoRow, [f"{row} ann park" for row in RIGHT])
        self.refuses_all(NoRow, ["close 1", "close now then", "want ann park road", "a b c d e"])
        self.refuses_all(NoRow, [" ".join(["pot"] * 99)])

    def test_too_few_words(self):
        rows = []
        for row in RIGHT:
            words = row.split(" ")
            rows += [" ".join(words[:count]) for count in range(1, len(words))]
        self.assertIn("want bob", rows)
        self.assertIn("give", rows)
        self.refuses_all(NoRow, rows)

    def test_first_words_that_are_none(self):
        rows = []
        for row in RIGHT:
            rows += [f"x{row}", row.upper(), row.capitalize(), row[1:], f"\t{row}", f"\n{row}"]
        rows += ["voters", "help", "5", "ann", "-", "ok", "none", "pot\n", "works\t", "close\n", "enroll ann",
                 "give\n 5", "voters ann", "wants ann park", "purses ann", "say pot", "__init__", "purse_of ann"]
        self.refuses_all(NoRow, rows)

    def test_words_that_are_no_numbers(self):
        for word in NO_NUMBERS:
            self.refuses_all(NoRow, [f"give {word}", f"propose hall {word}"])

    def test_no_row_ahead_of_what_the_chest_refuses(self):
        for word in NO_NUMBERS:
            self.refuses_all(NoRow, [f"propose Hall {word}", f"propose park {word}", f"propose abcdefghi {word}"])
        self.refuses_all(NoRow, [
            "enrol ann bob", "enrol Ann bob", "leave zed now", "want zed", "want zed hall now", "unwant zed",
            "withdraw hall 5", "purse zed now", "propose Hall", "give 10000000000000",
        ])

    def test_a_number_changed_round_with_a_name(self):
        self.refuses_all(NoRow, ["propose 30 park", "give ann"])

    def test_no_name(self):
        names = ["Ann", "abcdefghi", "ann1", "5", "-", "an-n", "ann\n", "\tann", "\n", "none.", "a+b", "a,", "a:"]
        self.refuses_all(NoName, [f"enrol {name}" for name in names])
        self.refuses_all(NoName, [f"propose {name} 5" for name in names])
        self.refuses_all(NoName, ["propose Hall 0", "propose Hall 9999999999999"])

    def test_twice(self):
        self.refuses_all(Twice, ["enrol ann", "propose park 5", "propose park 0", "propose park 9999999999999"])

    def test_no_voter(self):
        for name in ("zed", "Ann", "ann\n", "park", "5", "-", "abcdefghijk", "\t"):
            self.refuses_all(NoVoter, [
                f"leave {name}", f"purse {name}", f"want {name} park", f"unwant {name} park", f"want {name} hall",
                f"unwant {name} hall",
            ])

    def test_purse_of_one_who_left(self):
        desk = desk_of(TOWN)
        desk.say("leave ann")
        with self.assertRaises(NoVoter):
            desk.say("purse ann")
        with self.assertRaises(NoVoter):
            Desk().say("purse ann")

    def test_no_work(self):
        for work in ("hall", "Park", "park\n", "ann", "5", "-", "abcdefghijk", "\t"):
            self.refuses_all(NoWork, [f"withdraw {work}", f"want ann {work}", f"unwant ann {work}"])

    def test_too_much(self):
        self.refuses_all(TooMuch, [
            "give 1000000001", "give 9999999999999", "propose hall 0", "propose hall 1000000001",
            "propose hall 9999999999999",
        ])

    def test_full(self):
        desk = desk_of(TOWN)
        for name in NAMES[:17]:
            desk.say(f"enrol {name}")
        for name in NAMES[:9]:
            desk.say(f"propose {name} 5")
        self.refuses(Full, desk, "enrol zed")
        self.refuses(Full, desk, "propose zed 5")
        self.refuses(TooMuch, desk, "propose zed 0")
        self.refuses(Twice, desk, "enrol ann")
        self.refuses(NoName, desk, "enrol Zed")
        self.refuses(NoRow, desk, "propose zed x")


class Talks(unittest.TestCase):
    """Long talks, each row held against a slow chest."""

    def some_row(self, rng):
        deed = rng.choice(
            ["want"] * 12 + ["propose", "enrol"] * 4 + ["give"] * 4 + ["close", "purse", "works", "pot"] * 2
            + ["given", "spent", "unwant", "leave", "withdraw"]
        )
        names = NAMES[:5] + ["Ann", "zed"]
        if deed == "propose":
            return [deed, rng.choice(names), str(rng.choice([0, 1, 4, 9, 13, rng.randrange(50)]))]
        if deed == "give":
            return [deed, str(rng.choice([0, 1, 7, rng.randrange(60), 1000000001]))]
        count = {"want": 2, "unwant": 2, "close": 0, "works": 0, "pot": 0, "given": 0, "spent": 0}.get(deed, 1)
        return [deed] + [rng.choice(names) for place in range(count)]

    def answer(self, slow, words):
        deed, told = words[0], slow.told()
        if deed in ("pot", "given", "spent"):
            return str(told[["pot", "given", "spent"].index(deed) + 2])
        if deed == "works":
            rows = [f"{name} {cost} {'+'.join(wanters) or '-'}" for name, cost, wanters in told[1]]
            return ", ".join(rows) or "none"
        told = slow.do(deed, [int(word) if word.isdigit() else word for word in words[1:]])
        if deed == "close" and told[0] != []:
            rows = [f"{name} {cost}: " + ", ".join(f"{voter} {part}" for voter, part in payers)
                    for name, cost, payers in told[0]]
            return "; ".join(rows) + f" of {told[1]}"
        return "none" if deed == "close" else "ok" if told is None else str(told)

    def test_talks(self):
        closings = 0
        for seed in range(25):
            rng = random.Random(seed)
            desk, slow = Desk(), SlowChest()
            for place in range(300):
                words = self.some_row(rng)
                answer = self.answer(slow, words)
                if hasattr(errors, answer):
                    with self.assertRaises(getattr(errors, answer)):
                        desk.say(" ".join(words))
                else:
                    self.assertEqual(desk.say(" ".join(words)), answer)
                    closings += " of " in answer
        self.assertGreater(closings, 50)


if __name__ == "__main__":
    unittest.main()
