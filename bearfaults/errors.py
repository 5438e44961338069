"""The refusals: one class each, all of them under FaultError."""


class FaultError(ValueError):
    """Any refusal."""


class TooLong(FaultError):
    """A text of too many rows."""


class NoForm(FaultError):
    """A row that has none of the forms, or a run with another count of bits than ins."""


class NoPlace(FaultError):
    """A row that stands behind one that it must stand ahead of."""


class Twice(FaultError):
    """A name, or a place, that is told twice."""


class Full(FaultError):
    """More ins, gates or outs than a net has."""


class NoWire(FaultError):
    """A wire that there isn't ahead."""


class Open(FaultError):
    """A net without an in, or without an out."""


class NotPlain(FaultError):
    """A net with an in or an out of more than one wire, where one wire is asked."""


class NotThree(FaultError):
    """A net with an in or an out of other than three wires, where three are asked."""


class NotSound(FaultError):
    """A net with an out that is read as no bit though nothing is turned."""


class NoFit(FaultError):
    """An out and an in of unlike widths that are to be joined."""


class NoShape(FaultError):
    """A row that the desk doesn't know."""


class NoneYet(FaultError):
    """A desk that is asked of a net, and has none."""
