"""The errors behind the refusals; stripcut.strips answers each by its number."""


# What was handed in isn't what the call asks for: -22.
class NotAsTold(ValueError):
    pass


# It's as asked for, but more than the call takes on: -28.
class TooMuch(ValueError):
    pass


# All is as asked for, but the point lies in no part: -33.
class InNoPart(ValueError):
    pass
