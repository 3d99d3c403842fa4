"""Towns: coins, the costs of works, and the wishes of voters."""

from purse.grains import equal_purse

MOST_COINS = 1000000000000
MOST_WORKS = 12
MOST_VOTERS = 20


def are_costs(costs):
    return len(costs) <= MOST_WORKS and all([1 <= cost <= MOST_COINS for cost in costs])


def is_wish(wanted, works):
    # The least work that may come, so that works rise and none stands twice.
    least = 0
    for work in wanted:
        if work < least or work >= works:
            return False
        least = work + 1
    return True


def are_wishes(wishes, works):
    return 1 <= len(wishes) <= MOST_VOTERS and all([is_wish(wanted, works) for wanted in wishes])


def is_town(coins, costs, wishes):
    return 0 <= coins <= MOST_COINS and are_costs(costs) and are_wishes(wishes, len(costs))


def wants_all(wanted, works):
    return all([work in wanted for work in works])


def wanters_of(wishes, work):
    return common_of(wishes, [work])


def common_of(wishes, works):
    return [voter for voter, wanted in enumerate(wishes) if wants_all(wanted, works)]


def cost_of(costs, works):
    return sum([costs[work] for work in works])


def purses_of(coins, costs, wishes):
    voters = len(wishes)
    works = len(costs)
    return [equal_purse(coins, voters, works) for voter in range(voters)]
