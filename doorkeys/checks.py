"""Checks of the arguments that several modules take."""

from doorkeys.errors import InvalidTick, UnknownPerson

LAST_TICK = 10 ** 18


def is_integer(value):
    """Return whether a value is an integer; True and False are none."""
    return isinstance(value, int) and not isinstance(value, bool)


def is_below(value, limit):
    """Return whether a value is an integer from 0 to less than a limit."""
    return is_integer(value) and 0 <= value < limit


def check_tick(tick):
    """Raise InvalidTick unless this is a tick that may be passed."""
    if not is_below(tick, LAST_TICK + 1):
        raise InvalidTick("a tick is an integer from 0 to 10 ** 18")


def check_person(person, persons):
    """Raise UnknownPerson unless this is one of so many persons."""
    if not is_below(person, persons):
        raise UnknownPerson("the house does not have this person")
