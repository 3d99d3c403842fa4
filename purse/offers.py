"""Offers: for each work the level at which its wanters would pay for it."""

from purse.grains import grains_of
from purse.levels import level_for
from purse.towns import wanters_of


def prices_of(costs, wishes):
    grains = grains_of(len(wishes), len(costs))
    return [cost * grains for cost in costs]


def offer_of(purses, wishes, work, price):
    # Without wanters there are no purses, and so no level for any price.
    return level_for([purses[voter] for voter in wanters_of(wishes, work)], price)


def offers_of(purses, costs, wishes, done):
    offers = []
    for work, price in enumerate(prices_of(costs, wishes)):
        offers.append(None if work in done else offer_of(purses, wishes, work, price))
    return offers


def next_of(offers):
    best = None
    for work, offer in enumerate(offers):
        # Only a lesser offer takes the place, so that of alike ones the least number stays.
        if offer is not None and (best is None or offer < offers[best]):
            best = work
    return best
