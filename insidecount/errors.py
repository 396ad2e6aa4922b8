"""What the program refuses, one class for each kind of refusal."""


class HouseError(ValueError):
    """Any refusal."""


class BadHouse(HouseError):
    """A house can't have these numbers."""


class BadRow(HouseError):
    """A row can't come like this."""


class BadTime(HouseError):
    """It can't be this time."""


class BadAsk(HouseError):
    """There is no such badge or moment to ask for."""


class NotSound(HouseError):
    """The house has no world of which to tell."""


class TooMany(HouseError):
    """There are more stories or moments than can be told."""
