"""All errors that the package raises."""


class HouseError(ValueError):
    """The base class of all errors of the package."""


class InvalidHouse(HouseError):
    """A part of a house is invalid, at the item with this index."""

    def __init__(self, part, index):
        self.part = part
        self.index = index


class InvalidTick(HouseError):
    """A tick is not an integer from 0 to the last tick."""


class UnknownPerson(HouseError):
    """A house does not have this person."""


class InvalidLimit(HouseError):
    """A limit is not an integer of the range that is allowed."""


class DifferentHouses(HouseError):
    """Two houses do not have the same number of persons."""


class InvalidWaiting(HouseError):
    """Waiting persons are not an ascending tuple of different persons."""


class Contradiction(HouseError):
    """No candidate agrees with an observation."""


class TextFault(HouseError):
    """A text is invalid in the line with this number."""

    def __init__(self, line):
        self.line = line


class InvalidCode(HouseError):
    """A list of bytes is invalid at this place."""

    def __init__(self, place):
        self.place = place


class InvalidName(HouseError):
    """A name of a snapshot does not have one to eight letters a to z."""


class UnknownName(HouseError):
    """There is no snapshot of this name."""


class InvalidOperation(HouseError):
    """A list of operations is invalid at this place."""

    def __init__(self, place):
        self.place = place
