"""Chests: voters, proposed works and coins, kept over the years."""

from purse.choosing import choose, left_of
from purse.errors import Full, NoName, NoVoter, NoWork, TooMuch, Twice
from purse.grains import grains_of
from purse.towns import MOST_VOTERS, MOST_WORKS

LETTERS = "abcdefghijklmnopqrstuvwxyz"
MOST_LETTERS = 8
MOST_AT_ONCE = 1000000000


def is_name(name):
    return 1 <= len(name) <= MOST_LETTERS and all([sign in LETTERS for sign in name])


def check_new_name(name, names):
    if not is_name(name):
        raise NoName(f"no name: {name!r}")
    if name in names:
        raise Twice(f"there already: {name}")


def check_coins(coins, least):
    # The number is not told in the words, for it may have more figures than Python writes out.
    if coins < least or coins > MOST_AT_ONCE:
        raise TooMuch(f"not from {least} to {MOST_AT_ONCE} coins")


def check_place(names, most):
    if len(names) >= most:
        raise Full(f"there are {most} already")


class Chest:
    def __init__(self):
        # Purses by voters, and costs by works: a dict keeps the order in which they came.
        self.purses = {}
        self.costs = {}
        # Tuples (voter, work).
        self.wishes = []
        self.unshared = 0
        self.gifts = 0
        self.outlay = 0

    def voters(self):
        return list(self.purses.items())

    def works(self):
        return [(work, cost, self.wanters(work)) for work, cost in self.costs.items()]

    def pot(self):
        return self.unshared

    def given(self):
        return self.gifts

    def spent(self):
        return self.outlay

    def purse_of(self, voter):
        self.check_voter(voter)
        return self.purses[voter]

    def wanters(self, work):
        return [voter for voter in self.purses if (voter, work) in self.wishes]

    def wanted_places(self, voter):
        return [place for place, work in enumerate(self.costs) if (voter, work) in self.wishes]

    def check_voter(self, voter):
        if voter not in self.purses:
            raise NoVoter(f"no voter: {voter!r}")

    def check_work(self, work):
        if work not in self.costs:
            raise NoWork(f"no work: {work!r}")

    def enrol(self, name):
        check_new_name(name, self.purses)
        check_place(self.purses, MOST_VOTERS)
        self.purses[name] = 0

    def leave(self, name):
        self.check_voter(name)
        self.unshared += self.purses.pop(name)
        self.wishes = [(voter, work) for voter, work in self.wishes if voter != name]

    def give(self, coins):
        check_coins(coins, 0)
        self.gifts += coins
        self.unshared += coins
        if self.purses:
            self.share(self.unshared // len(self.purses))

    def share(self, part):
        self.unshared -= part * len(self.purses)
        self.purses = dict([(voter, purse + part) for voter, purse in self.purses.items()])

    def propose(self, work, cost):
        check_new_name(work, self.costs)
        check_coins(cost, 1)
        check_place(self.costs, MOST_WORKS)
        self.costs[work] = cost

    def withdraw(self, work):
        self.check_work(work)
        self.costs.pop(work)
        self.wishes = [(voter, other) for voter, other in self.wishes if other != work]

    def want(self, voter, work):
        self.check_voter(voter)
        self.check_work(work)
        if (voter, work) not in self.wishes:
            self.wishes.append((voter, work))

    def unwant(self, voter, work):
        self.check_voter(voter)
        self.check_work(work)
        self.wishes = [wish for wish in self.wishes if wish != (voter, work)]

    def close(self):
        if not self.purses or not self.costs:
            return ([], 1)
        grains = grains_of(len(self.purses), len(self.costs))
        purses = [purse * grains for purse in self.purses.values()]
        wishes = [self.wanted_places(voter) for voter in self.purses]
        steps = choose(purses, list(self.costs.values()), wishes)
        # Told ahead of the keeping, while the works still stand at their places.
        told = [self.told_step(work, paid) for work, level, paid in steps]
        self.keep_coins(left_of(purses, steps), grains)
        for name, cost, rows in told:
            self.outlay += cost
            self.withdraw(name)
        return (told, grains)

    def told_step(self, place, paid):
        name = list(self.costs)[place]
        rows = [(voter, part) for voter, part in zip(self.purses, paid) if part > 0]
        return (name, self.costs[name], rows)

    def keep_coins(self, left, grains):
        # Prices are whole coins, so what is left below a coin comes to whole coins over all purses.
        self.unshared += sum([part % grains for part in left]) // grains
        self.purses = dict(zip(self.purses, [part // grains for part in left]))
