"""Who waits outside and for how long, who carries keys, and when the house is open."""

from doorkeys.checks import check_person, check_tick
from doorkeys.days import UNLOCKED, WAITERS, course_after, find_cycle, scenes_of


def waiting(house, tick):
    """Return the ascending tuple of the persons who wait outside after a tick."""
    check_tick(tick)
    return tuple(course_after(house, tick).waiters)


def is_open(house, tick):
    """Return whether the house is open after a tick."""
    check_tick(tick)
    return course_after(house, tick).unlocked


def hook(house, tick):
    """Return the number of keys on the hook after a tick."""
    check_tick(tick)
    return house.key_count - len(course_after(house, tick).carriers)


def holders(house, tick):
    """Return the ascending tuple of the persons who carry a key after a tick."""
    check_tick(tick)
    return tuple(course_after(house, tick).carriers)


def wait_ticks(house, person):
    """Return the ticks after which a person waits: before the cycle, and in it."""
    check_person(person, house.persons)
    return split_ticks(house, [person in scene[WAITERS] for scene in scenes_of(house)])


def open_ticks(house):
    """Return the ticks after which the house is open: before the cycle, and in it."""
    return split_ticks(house, [scene[UNLOCKED] for scene in scenes_of(house)])


def split_ticks(house, marks):
    """Return the ticks that have a mark: before the cycle, and in its first run."""
    begin, length = find_cycle(house)
    return (
        [tick for tick in range(begin) if marks[tick]],
        [tick for tick in range(begin, begin + length) if marks[tick]],
    )


def count_waits(house, person, first, last):
    """Return after how many ticks from a first to a last one a person waits."""
    check_person(person, house.persons)
    check_tick(first)
    check_tick(last)
    if last < first:
        return 0
    return count_before(house, person, last + 1) - count_before(house, person, first)


def count_before(house, person, limit):
    """Return after how many ticks less than a limit a person waits."""
    early, cyclic = wait_ticks(house, person)
    begin, length = find_cycle(house)
    if limit <= begin:
        return len([tick for tick in early if tick < limit])
    runs, rest = divmod(limit - begin, length)
    return len(early) + runs * len(cyclic) + len([tick for tick in cyclic if tick < begin + rest])


def first_wait(house):
    """Return the first tick after which somebody waits, and who does, or None."""
    for tick, scene in enumerate(scenes_of(house)):
        if scene[WAITERS]:
            return (tick, scene[WAITERS])
    return None


def longest_wait(house):
    """Return the longest wait as (ticks, person, first tick), or None."""
    begin, length = find_cycle(house)
    rows = [scene[WAITERS] for scene in scenes_of(house)]
    return longest_of(rows[:begin], rows[begin:begin + length])


def longest_of(early, cycle):
    """Return the longest wait, given who waits after the ticks before the cycle, and in it."""
    # In its second run the cycle shows the end of each wait that began earlier, if it has one.
    rows = early + cycle + cycle
    waits = list_waits(rows, len(early) + len(cycle))
    for ticks, person, first in waits:
        if first + ticks == len(rows):
            return (None, person, first)
    return max(waits, key=lambda wait: wait[0], default=None)


def list_waits(rows, limit):
    """Return all waits that begin before a limit, by their first ticks, then persons."""
    # Nobody waits after tick 0, because everybody was at home before it.
    return [
        (count_successive(rows, person, first), person, first)
        for first in range(1, limit)
        for person in rows[first]
        if person not in rows[first - 1]
    ]


def count_successive(rows, person, first):
    """Return after how many successive ticks a person waits, from a first one on."""
    tick = first
    while tick < len(rows) and person in rows[tick]:
        tick += 1
    return tick - first


def next_entry(house, person, tick):
    """Return the first tick, from a given one on, after which a person is at home, or None."""
    check_person(person, house.persons)
    check_tick(tick)
    begin, length = find_cycle(house)
    course = course_after(house, tick)
    for _ in range(begin + length):
        if person in course.home:
            return course.tick
        course.advance()
    return None
