"""Towns for the tests, and a slow reckoning in fractions of coins to hold the program against.

Nothing here draws from the program, so that a fault there is not repeated here.
"""

import itertools
import math
import random
import re
from fractions import Fraction

MOST = 10 ** 12
LONG = 10 ** 200 - 1


def grains_for(costs, wishes):
    return math.lcm(*range(1, len(wishes) + 1)) ** (len(costs) + 1)


def equal_purses(coins, costs, wishes):
    return [coins * grains_for(costs, wishes) // len(wishes)] * len(wishes)


def coin_purses(coins, costs, wishes):
    return [coin * grains_for(costs, wishes) for coin in coins]


def some_wishes(rng, voters, works):
    share = rng.choice([20, 40, 60, 90])
    return [[work for work in range(works) if rng.randrange(100) < share] for voter in range(voters)]


def some_towns(count, seed, voters=6, works=5, coins=60, cost=15):
    """Towns (coins, costs, wishes), with numbers up to those told; the same ones at each call."""
    rng = random.Random(seed)
    towns = []
    for place in range(count):
        costs = [rng.randrange(1, cost + 1) for work in range(rng.randrange(works // 3, works + 1))]
        wishes = some_wishes(rng, rng.randrange(1, voters + 1), len(costs))
        towns.append((rng.randrange(coins + 1), costs, wishes))
    return towns


def some_purses(count, seed, voters=6, works=5, coins=60, cost=15):
    """Towns as (purses, costs, wishes): equal purses, and unlike ones of whole coins, by turns."""
    rng = random.Random(seed + 1)
    purses = []
    for place, town in enumerate(some_towns(count, seed, voters, works, coins, cost)):
        if place % 2 == 0:
            purses.append((equal_purses(*town), town[1], town[2]))
        else:
            unlike = [rng.choice([0, 1, rng.randrange(cost), rng.randrange(cost)]) for wanted in town[2]]
            purses.append((coin_purses(unlike, town[1], town[2]), town[1], town[2]))
    return purses


def small_towns():
    """Every town of two voters and two works with few coins."""
    kinds = [[], [0], [1], [0, 1]]
    for coins, one, two in itertools.product(range(6), range(1, 4), range(1, 4)):
        for wishes in itertools.product(kinds, repeat=2):
            yield coins, [one, two], [list(wanted) for wanted in wishes]


def slow_offer(purses, cost):
    """The least level at which the cost is gathered; from one purse to the next greater one that rises evenly."""
    if sum(purses) < cost:
        return None
    below, gathered = Fraction(0), Fraction(0)
    for purse in sorted(set(purses)):
        then = sum(min(other, purse) for other in purses)
        if then >= cost:
            return below + (cost - gathered) / sum(1 for other in purses if other > below)
        below, gathered = purse, then
    raise AssertionError("no level for a cost that can be paid")


def slow_offers(purses, costs, wishes, done):
    offers = []
    for work, cost in enumerate(costs):
        have = [purse for purse, wanted in zip(purses, wishes) if work in wanted]
        offers.append(None if work in done or not have else slow_offer(have, cost))
    return offers


def slow_choose(purses, costs, wishes):
    purses, steps, done = list(purses), [], []
    while True:
        offers = slow_offers(purses, costs, wishes, done)
        ranks = sorted((offer, work) for work, offer in enumerate(offers) if offer is not None)
        if not ranks:
            return steps
        level, work = ranks[0]
        paid = [min(purse, level) if work in wanted else Fraction(0) for purse, wanted in zip(purses, wishes)]
        purses = [purse - part for purse, part in zip(purses, paid)]
        steps.append((work, level, paid))
        done.append(work)


def in_coins(grains, costs, wishes):
    return Fraction(grains, grains_for(costs, wishes))


def slow_steps(purses, costs, wishes):
    """The steps in grains; a grain that were cut would be told as a fraction and never be equal to a whole number."""
    grains = grains_for(costs, wishes)
    coins = [in_coins(purse, costs, wishes) for purse in purses]
    return [
        (work, level * grains, [part * grains for part in paid])
        for work, level, paid in slow_choose(coins, costs, wishes)
    ]


def slow_fill(coins, costs, wishes, works):
    """The works filled in, each looked for among all works anew; the works handed in cost no more than the coins."""
    wanters = [sum(work in wanted for wanted in wishes) for work in range(len(costs))]
    done = list(works)
    while True:
        over = coins - sum(costs[work] for work in done)
        further = [
            work for work in range(len(costs)) if work not in done and wanters[work] > 0 and costs[work] <= over
        ]
        if not further:
            return done[len(works):]
        most = [work for work in further if wanters[work] == max(wanters[other] for other in further)]
        least = [work for work in most if costs[work] == min(costs[other] for other in most)]
        done.append(least[0])


def place_of(rows, name):
    return [row[0] for row in rows].index(name)


class SlowChest:
    """A chest in fractions of coins. A refusal is told by its name, and nothing is done then."""

    def __init__(self):
        self.people, self.plans = [], []
        self.rest = self.gifts = self.costs = 0

    def told(self):
        works = [(plan, cost, [row[0] for row in self.people if plan in row[2]]) for plan, cost in self.plans]
        return [(name, coins) for name, coins, wants in self.people], works, self.rest, self.gifts, self.costs

    def why_not(self, deed, words):
        people, plans = [row[0] for row in self.people], [row[0] for row in self.plans]
        if deed in ("enrol", "propose"):
            there, most = (people, 20) if deed == "enrol" else (plans, 12)
            if re.fullmatch("[a-z]{1,8}", words[0]) is None:
                return "NoName"
            if words[0] in there:
                return "Twice"
            if deed == "propose" and words[1] not in range(1, 10 ** 9 + 1):
                return "TooMuch"
            return "Full" if len(there) == most else None
        if deed in ("leave", "want", "unwant", "purse") and words[0] not in people:
            return "NoVoter"
        if deed in ("withdraw", "want", "unwant") and words[-1] not in plans:
            return "NoWork"
        if deed == "give" and words[0] not in range(10 ** 9 + 1):
            return "TooMuch"
        return None

    def do(self, deed, words=()):
        """What the deed tells, or the name of its refusal."""
        return self.why_not(deed, words) or getattr(self, deed)(*words)

    def enrol(self, name):
        self.people.append([name, 0, set()])

    def leave(self, name):
        self.rest += self.people.pop(place_of(self.people, name))[1]

    def give(self, coins):
        self.gifts += coins
        self.rest += coins
        part = self.rest // len(self.people) if self.people else 0
        for row in self.people:
            row[1] += part
            self.rest -= part

    def propose(self, work, cost):
        self.plans.append((work, cost))

    def withdraw(self, work):
        self.plans.pop(place_of(self.plans, work))
        for row in self.people:
            row[2].discard(work)

    def want(self, voter, work):
        self.people[place_of(self.people, voter)][2].add(work)

    def unwant(self, voter, work):
        self.people[place_of(self.people, voter)][2].discard(work)

    def purse(self, voter):
        return self.people[place_of(self.people, voter)][1]

    def close(self):
        if not self.people or not self.plans:
            return [], 1
        plans, costs = zip(*self.plans)
        wishes = [[place for place, plan in enumerate(plans) if plan in row[2]] for row in self.people]
        grains = grains_for(costs, wishes)
        told, left = [], [Fraction(row[1]) for row in self.people]
        for place, level, paid in slow_choose(left, costs, wishes):
            rows = [(row[0], part * grains) for row, part in zip(self.people, paid) if part > 0]
            told.append((plans[place], costs[place], rows))
            left = [coins - part for coins, part in zip(left, paid)]
        for name, cost, rows in told:
            self.costs += cost
            self.withdraw(name)
        for row, coins in zip(self.people, left):
            row[1] = math.floor(coins)
        # A fraction that stayed here would be unlike every whole number.
        self.rest += sum(coins - math.floor(coins) for coins in left)
        return told, grains
