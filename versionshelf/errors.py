"""The refusals of a shelf."""


class ShelfError(ValueError):
    """Any refusal."""


class BadKey(ShelfError):
    """What is no key, or no value."""


class NoHand(ShelfError):
    """A hand that isn't there."""


class NoBranch(ShelfError):
    """A branch that isn't there, or branch 0 where it is to be dropped."""


class Dropped(ShelfError):
    """A branch that was dropped."""


class Clash(ShelfError):
    """A draft's key that was changed in the branch behind the hand's moment."""

    def __init__(self, key):
        self.key = key


class NoCell(ShelfError):
    """A version that isn't there."""


class BadText(ShelfError):
    """A text of no shelf, or a shelf of which there is no text."""
