"""The refusals: what was told wrongly, and what was asked at the wrong time."""


class PullError(ValueError):
    """Any refusal."""


class ToldError(PullError):
    """What was handed in is not what it should be."""


class NoRope(ToldError):
    """What was handed in is no rope."""


class NoLoad(ToldError):
    """What was handed in is no load."""


class NoName(ToldError):
    """What was handed in is no rope's name."""


class NoNumber(ToldError):
    """What was handed in is no number that fits."""


class Taken(ToldError):
    """A rope has that name already."""


class AskedError(PullError):
    """What was asked cannot be done as things are."""


class Full(AskedError):
    """There is no room for another rope."""


class Hung(AskedError):
    """A load above 0 hangs."""

    def __init__(self, weight):
        # The weight is left out of the text: Python refuses to write very long numbers.
        super().__init__("a load hangs")
        self.weight = weight


class NoRopes(AskedError):
    """No rope is whole."""


class Whole(AskedError):
    """The rope is not broken."""

    def __init__(self, name):
        super().__init__("that rope is whole")
        self.name = name
