"""The refusals of the program, one class for each."""


# Any refusal: who takes this one takes them all.
class PurseError(ValueError):
    pass


# A paper was asked of a work that is done.
class NoPaper(PurseError):
    pass


# Coins, or a cost, lie beyond what may be handed in or spent.
class TooMuch(PurseError):
    pass


# A name to come is no name.
class NoName(PurseError):
    pass


# A name to come is there already.
class Twice(PurseError):
    pass


# No voter has the name told.
class NoVoter(PurseError):
    pass


# No proposed work has the name told.
class NoWork(PurseError):
    pass


# There is no place for one more voter or work.
class Full(PurseError):
    pass


# A text is no row that the desk knows.
class NoRow(PurseError):
    pass
