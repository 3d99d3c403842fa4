"""Levels: how much each pays at most, so that a price is gathered."""


def paid_at(purses, level):
    return [min(purse, level) for purse in purses]


def gathered(purses, level):
    return sum(paid_at(purses, level))


def rounded_up(amount, shares):
    return (amount + shares - 1) // shares


def level_for(purses, price):
    if sum(purses) < price:
        return None
    missing = price
    payers = len(purses)
    for purse in sorted(purses):
        # Everybody from here on has this purse at least, so they can share what is missing alike.
        if purse * payers >= missing:
            return rounded_up(missing, payers)
        # Too small for an equal share: this purse is paid whole.
        missing -= purse
        payers -= 1
    # Only a price of nothing, with nobody there to pay it, comes this far.
    return 0
