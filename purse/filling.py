"""Filling: what the choosing leaves over is spent on further works."""

from purse.choosing import choose, works_of
from purse.errors import TooMuch
from purse.towns import cost_of, purses_of, wanters_of


def coins_over(coins, costs, works):
    return coins - cost_of(costs, works)


def further_works(costs, wishes, works):
    return [work for work in range(len(costs)) if work not in works and wanters_of(wishes, work)]


def rank_of(costs, wishes, work):
    # Less is ahead, so the number of wanters is turned round: the most wanted come first.
    return (-len(wanters_of(wishes, work)), costs[work], work)


def ranked_works(costs, wishes, works):
    ranks = [rank_of(costs, wishes, work) for work in further_works(costs, wishes, works)]
    return [work for turned, cost, work in sorted(ranks)]


def fill(coins, costs, wishes, works):
    over = coins_over(coins, costs, works)
    if over < 0:
        raise TooMuch("the works cost more than the coins")
    filled = []
    # What is left over never grows, so a work that was too dear stays too dear: one walk is enough.
    for work in ranked_works(costs, wishes, works):
        if costs[work] <= over:
            filled.append(work)
            over -= costs[work]
    return filled


def plan_of(coins, costs, wishes):
    steps = choose(purses_of(coins, costs, wishes), costs, wishes)
    chosen = works_of(steps)
    filled = fill(coins, costs, wishes, chosen)
    return (steps, filled, coins_over(coins, costs, chosen + filled))
