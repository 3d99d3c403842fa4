"""Choosing: works are done one by one, always the one whose dearest payer pays least."""

from purse.levels import paid_at
from purse.offers import next_of, offers_of
from purse.towns import wanters_of


def payments_of(purses, wishes, work, level):
    wanters = wanters_of(wishes, work)
    return [paid if voter in wanters else 0 for voter, paid in enumerate(paid_at(purses, level))]


def works_of(steps):
    return sorted([work for work, level, paid in steps])


def paid_by(steps, voter):
    return sum([paid[voter] for work, level, paid in steps])


def left_of(purses, steps):
    return [purse - paid_by(steps, voter) for voter, purse in enumerate(purses)]


def bought_by(wishes, steps, voter):
    return [(work, paid[voter]) for work, level, paid in steps if work in wishes[voter]]


# Choosing and looking through both ask here, so that they can never tell different steps.
def step_behind(purses, costs, wishes, steps):
    left = left_of(purses, steps)
    offers = offers_of(left, costs, wishes, works_of(steps))
    work = next_of(offers)
    if work is None:
        return None
    level = offers[work]
    return (work, level, payments_of(left, wishes, work, level))


def choose(purses, costs, wishes):
    steps = []
    step = step_behind(purses, costs, wishes, steps)
    while step is not None:
        steps.append(step)
        step = step_behind(purses, costs, wishes, steps)
    return steps
