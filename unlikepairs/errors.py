"""The errors of the package."""


def copied(value):
    """Return a value in which every list is new, at every level of nesting."""
    if isinstance(value, list):
        return [copied(part) for part in value]
    if isinstance(value, tuple):
        return tuple([copied(part) for part in value])
    return value


class PairError(ValueError):
    """The base class of all errors of the package."""


class InvalidSequence(PairError):
    """A value is not a sequence."""


class InvalidState(PairError):
    """A value is not a state."""


class InvalidKind(PairError):
    """A value is not a kind."""


class InvalidKinds(PairError):
    """A value is not a list of kinds in ascending order."""


class InvalidItems(PairError):
    """A value is not a list of items as the function takes it."""


class InvalidPosition(PairError):
    """A value is not a position or a moment in its range."""


class InvalidNumber(PairError):
    """A value is not a number in its range."""


class InvalidEffects(PairError):
    """A value is not a list of effects."""


class InvalidCounts(PairError):
    """A value is not a list of counts."""


class InvalidRecord(PairError):
    """A value is not a record."""


class InvalidCommand(PairError):
    """A value is not a command line."""


class TooLong(PairError):
    """A sequence is too long for the function, or its result would be."""


class SameEffect(PairError):
    """Two sequences have the same effect on every state."""


class NothingToUndo(PairError):
    """No operation is left that could be undone."""


class InvalidText(PairError):
    """A value is not a text; index is that of the first wrong word, or None."""

    def __init__(self, index):
        self.index = index


class TooMany(PairError):
    """Counts are too large; count is the product that is over the limit."""

    def __init__(self, count):
        self.count = count


class Impossible(PairError):
    """A state cannot remain; reason says why."""

    def __init__(self, reason):
        # A caller may pass a list and change it later.
        self.reason = copied(reason)


class Contradiction(PairError):
    """No list fits a record; conflict says why."""

    def __init__(self, conflict):
        self.conflict = copied(conflict)
