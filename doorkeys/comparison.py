"""Comparing two houses, and a house with a log of who waits outside."""

from math import lcm

from doorkeys.checks import is_integer
from doorkeys.days import Course, find_cycle
from doorkeys.errors import DifferentHouses
from doorkeys.houses import House


def first_difference(house, other):
    """Return the first tick after which different persons wait, and both groups, or None."""
    if not is_pair(house, other):
        raise DifferentHouses("the houses have different numbers of persons")
    course = Course(house)
    second = Course(other)
    for tick in range(count_ticks(house, other)):
        course.advance()
        second.advance()
        if course.waiters != second.waiters:
            return (tick, tuple(course.waiters), tuple(second.waiters))
    return None


def is_pair(house, other):
    """Return whether two values are houses with the same number of persons."""
    return isinstance(house, House) and isinstance(other, House) and house.persons == other.persons


def count_ticks(house, other):
    """Return after how many ticks two houses have shown all that they ever do together."""
    begin, length = find_cycle(house)
    other_begin, other_length = find_cycle(other)
    return max(begin, other_begin) + lcm(length, other_length)


def first_error(house, log):
    """Return the index of the first item of a log that is wrong, or None."""
    if not isinstance(log, list):
        return 0
    course = Course(house)
    for index, item in enumerate(log):
        course.advance()
        if not is_group(item) or item != tuple(course.waiters):
            return index
    return None


def is_group(item):
    """Return whether an item of a log is a tuple of integers."""
    return isinstance(item, tuple) and all([is_integer(person) for person in item])
