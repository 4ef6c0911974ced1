"""The refusals of the program, each kind a class of its own."""


class NotfoundError(ValueError):
    """Any refusal."""


class BadFact(NotfoundError):
    """What was given as a fact is none."""


class BadRule(NotfoundError):
    """What was given as a rule is none."""


class LooseSlot(NotfoundError):
    """A slot of a head or of a not stands in no yes."""


class TooMany(NotfoundError):
    """There is more of something than may be."""


class NotOpen(NotfoundError):
    """The fact is not open."""


class NotLayered(NotfoundError):
    """The words have no layers: a ring goes through a not."""
