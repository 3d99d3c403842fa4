"""Papers: why a work is not done, and whether a row of steps is the right one."""

from purse.choosing import choose, left_of, step_behind, works_of
from purse.errors import NoPaper
from purse.offers import prices_of
from purse.towns import wanters_of


def paper_of(purses, costs, wishes, work):
    steps = choose(purses, costs, wishes)
    if work in works_of(steps):
        raise NoPaper(f"work {work} is done")
    left = left_of(purses, steps)
    wanters = wanters_of(wishes, work)
    rows = [(voter, left[voter]) for voter in wanters]
    have = sum([left[voter] for voter in wanters])
    return (rows, have, prices_of(costs, wishes)[work])


def first_wrong(purses, costs, wishes, steps):
    for place, step in enumerate(steps):
        # All steps ahead of this place were right, so what is left behind them is as the choosing leaves it.
        if step != step_behind(purses, costs, wishes, steps[:place]):
            return place
    if step_behind(purses, costs, wishes, steps) is not None:
        return len(steps)
    return None
