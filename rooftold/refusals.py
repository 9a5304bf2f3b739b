"""The errors that stand for refusals, one for each."""


# A text is no house's.
class NoHouse(Exception):
    pass
