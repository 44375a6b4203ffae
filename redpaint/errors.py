"""What is refused, and why."""


class TreeError(ValueError):
    """Any refusal."""


class NoKey(TreeError):
    """The tree hasn't the key."""


class NoPlace(TreeError):
    """The place is below nought, or not below how many keys there are."""


class NotApart(TreeError):
    """The keys that are to be joined do not lie one behind the other."""


class NotRising(TreeError):
    """A pair's key is not greater than the key of the pair ahead of it."""
