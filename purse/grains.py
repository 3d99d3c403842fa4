"""Grains: coins cut so fine that no payment ever cuts a grain."""


def least_multiple(step, number):
    multiple = step
    # The multiple of step by number itself is divided by number, so this ends.
    while multiple % number != 0:
        multiple += step
    return multiple


def together(n):
    least = 1
    for number in range(1, n + 1):
        least = least_multiple(least, number)
    return least


def grains_of(voters, works):
    factor = together(voters)
    grains = factor
    # One factor for the equal purses, and one more for each work that may be shared.
    for work in range(works):
        grains *= factor
    return grains


def equal_purse(coins, voters, works):
    # The voters divide the grains of a coin, so nothing is lost here.
    return coins * grains_of(voters, works) // voters
