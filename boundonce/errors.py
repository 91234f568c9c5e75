"""The errors that the document names: one class for each kind of failure."""


class BoundError(ValueError):
    """What all errors of this package have in common."""


class InvalidName(BoundError):
    """Something that should be a name is none."""


class InvalidCatalog(BoundError):
    """These are no types and casts of a catalog."""


class InvalidDeed(BoundError):
    """Something that should be a deed is none."""


class InvalidStatement(BoundError):
    """Something that should be a statement is none."""


class InvalidPath(BoundError):
    """Something that should be a path is none."""


class InvalidText(BoundError):
    """This is not the text of anything."""


class InvalidEntry(BoundError):
    """This is no entry that is asked for, or no list of such."""


class InvalidPart(BoundError):
    """This is not a part of the plan."""


class InvalidLine(BoundError):
    """This is no line of the shell."""


class Unknown(BoundError):
    """What is named does not stand there."""


class Taken(BoundError):
    """Something stands already where something new should."""


class Unfit(BoundError):
    """A deed would break what holds for facts and columns."""


class NoRight(BoundError):
    """The role does not have the right on a source."""


class Ring(BoundError):
    """A view is opened within itself."""


class Ambiguous(BoundError):
    """Several columns or functions are meant alike."""


class OnCall(BoundError):
    """A condition has a column that is a call."""


class Mismatch(BoundError):
    """A condition has columns of two types."""


class DuplicateName(BoundError):
    """The name was given before."""


class UnknownName(BoundError):
    """Nothing has this name."""


class Busy(BoundError):
    """A session has begun and not ended."""


class NotBegun(BoundError):
    """The session has not begun."""
