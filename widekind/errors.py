"""The refusals of the program."""


# Any refusal.
class WideError(ValueError):
    pass


# An outside name isn't known.
class NoName(WideError):
    pass


# A line is not one that a kind is written as.
class NoKind(WideError):
    pass
