"""The errors behind the refusals; stripcut.strips answers each by its number."""


# What was handed in isn't what the call asks for: -22.
class NotAsTold(ValueError):
    pass
