"""With how many keys, whose care and which reminders a house is smooth."""

from itertools import combinations

from doorkeys.checks import is_below
from doorkeys.days import UNLOCKED, WAITERS, scenes_of
from doorkeys.errors import InvalidLimit
from doorkeys.houses import MOST_KEYS, MOST_REMINDERS, House, is_home_letter

MOST_PLANNED = 2


def is_smooth(house):
    """Return whether nobody ever waits outside a house and it is never open."""
    for scene in scenes_of(house):
        if scene[WAITERS] or scene[UNLOCKED]:
            return False
    return True


def least_keys(house):
    """Return the least number of keys with which a house is smooth, or None."""
    for keys in range(MOST_KEYS + 1):
        if is_smooth(House(house.tables, keys, house.careful, house.reminders)):
            return keys
    return None


def fewest_careful(house):
    """Return the shortest tuple of careful persons with which a house is smooth, or None."""
    for count in range(house.persons + 1):
        for careful in combinations(range(house.persons), count):
            if is_smooth(House(house.tables, house.key_count, careful, house.reminders)):
                return careful
    return None


def plan_reminders(house, limit):
    """Return the shortest tuple of further reminders with which a house is smooth, or None."""
    if not is_below(limit, MOST_PLANNED + 1):
        raise InvalidLimit("a limit is an integer from 0 to 2")
    most = min(limit, MOST_REMINDERS - len(house.reminders))
    reminders = list_useful(house)
    for count in range(most + 1):
        for more in combinations(reminders, count):
            if is_smooth(with_reminders(house, [*house.reminders, *more])):
                return more
    return None


def list_useful(house):
    """Return the further reminders that can change something, in ascending order."""
    # A shortest tuple has no other ones: it would be as good without them.
    return [
        (tick, person)
        for tick in range(house.period)
        for person in range(house.persons)
        if can_leave(house.tables[person], tick) and (tick, person) not in house.reminders
    ]


def can_leave(table, tick):
    """Return whether a person with a timetable can leave in a tick of the period."""
    if is_home_letter(table, tick):
        return False
    # Before tick 0 everybody is at home, whatever the end of the timetable says.
    return tick == 0 or is_home_letter(table, tick - 1)


def with_reminders(house, reminders):
    """Return a house with other reminders, given in any order."""
    return House(house.tables, house.key_count, house.careful, tuple(sorted(reminders)))


def idle_reminders(house):
    """Return the list of the reminders without each of which all scenes are the same."""
    scenes = list(scenes_of(house))
    return [reminder for reminder in house.reminders if has_scenes(without(house, reminder), scenes)]


def without(house, reminder):
    """Return a house without one of its reminders."""
    return with_reminders(house, [other for other in house.reminders if other != reminder])


def has_scenes(house, scenes):
    """Return whether a house has these scenes, up to the first that occurs a second time."""
    return list(scenes_of(house)) == scenes
