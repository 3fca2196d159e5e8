"""Houses: timetables, keys, careful persons and reminders, and their texts."""

from math import lcm

from doorkeys.checks import check_person, check_tick, is_below
from doorkeys.errors import InvalidHouse, TextFault

MOST_PERSONS = 6
MOST_KEYS = 9
MOST_REMINDERS = 10
TABLE_LENGTHS = (1, 2, 3, 4, 6, 8, 12, 24)
LETTERS = "ho"
DIGITS = "0123456789"
LINE_WORDS = ("tables", "keys", "careful", "remind")


class House:
    """A house with its timetables, keys, careful persons and reminders."""

    def __init__(self, tables, keys, careful=(), reminders=()):
        check_tables(tables)
        check_keys(keys)
        check_careful(careful, len(tables))
        check_reminders(reminders, common_period(tables), len(tables))
        self.tables = tables
        self.key_count = keys
        self.careful = careful
        self.reminders = reminders

    @property
    def persons(self):
        """The number of persons."""
        return len(self.tables)

    @property
    def period(self):
        """The number of ticks after which all timetables repeat."""
        return common_period(self.tables)

    @property
    def text(self):
        """The text of the house, from which `parse` makes it again."""
        return "\n".join([
            " ".join(["tables", *self.tables]),
            keys_line(self.key_count),
            careful_line(self.careful),
            remind_line(self.reminders),
        ])

    @classmethod
    def parse(cls, text):
        """Return the house of a text."""
        tables, keys, careful, reminders = split_text(text)
        return cls(tuple(tables), int(keys[0]), read_numbers(careful), read_reminders(reminders))

    def wants_home(self, person, tick):
        """Return whether a person wants to be at home in a tick."""
        check_person(person, self.persons)
        check_tick(tick)
        return is_home_letter(self.tables[person], tick)


def is_home_letter(table, tick):
    """Return whether a timetable says at home for a tick."""
    return table[tick % len(table)] == "h"


def common_period(tables):
    """Return the number of ticks after which all timetables repeat."""
    ticks = 1
    for table in tables:
        ticks = lcm(ticks, len(table))
    return ticks


def check_tables(tables):
    """Raise InvalidHouse unless these are the timetables of a house."""
    if not isinstance(tables, tuple) or not tables:
        raise InvalidHouse("tables", 0)
    for index, table in enumerate(tables):
        if index == MOST_PERSONS or not is_table(table):
            raise InvalidHouse("tables", index)


def check_keys(keys):
    """Raise InvalidHouse unless a house can have so many keys."""
    if not is_below(keys, MOST_KEYS + 1):
        raise InvalidHouse("keys", 0)


def check_careful(careful, persons):
    """Raise InvalidHouse unless these are different persons in order."""
    if not isinstance(careful, tuple):
        raise InvalidHouse("careful", 0)
    for index, person in enumerate(careful):
        if not is_below(person, persons) or not is_ascending_at(careful, index):
            raise InvalidHouse("careful", index)


def check_reminders(reminders, period, persons):
    """Raise InvalidHouse unless these are different reminders in order."""
    if not isinstance(reminders, tuple):
        raise InvalidHouse("reminders", 0)
    for index, reminder in enumerate(reminders):
        if index == MOST_REMINDERS or not is_reminder(reminder, period, persons):
            raise InvalidHouse("reminders", index)
        if not is_ascending_at(reminders, index):
            raise InvalidHouse("reminders", index)


def is_table(table):
    """Return whether a value is a timetable."""
    return isinstance(table, str) and len(table) in TABLE_LENGTHS and has_only(table, LETTERS)


def is_reminder(reminder, period, persons):
    """Return whether a value is a tuple of a tick of the period and a person."""
    if not isinstance(reminder, tuple) or len(reminder) != 2:
        return False
    return is_below(reminder[0], period) and is_below(reminder[1], persons)


def is_ascending_at(items, index):
    """Return whether an item is the first one or greater than the one before it."""
    return index == 0 or items[index - 1] < items[index]


def has_only(word, characters):
    """Return whether a word has no other characters than these."""
    return all([character in characters for character in word])


def split_text(text):
    """Return the words of the four lines of a text, each line without its first word."""
    if not isinstance(text, str):
        raise TextFault(0)
    lines = text.split("\n")
    rows = []
    for number, word in enumerate(LINE_WORDS):
        if number == len(lines):
            raise TextFault(number)
        first, *rest = lines[number].split(" ")
        if first != word or not are_arguments(word, rest):
            raise TextFault(number)
        rows.append(rest)
    if len(lines) > len(LINE_WORDS):
        raise TextFault(len(LINE_WORDS))
    return rows


def are_arguments(word, rest):
    """Return whether the words behind the first word of a line are written properly."""
    if word == "tables":
        return all([is_table_word(part) for part in rest])
    if word == "remind":
        return all([is_reminder_word(part) for part in rest])
    if word == "keys" and len(rest) != 1:
        return False
    return all([is_number_word(part) for part in rest])


def is_table_word(word):
    """Return whether a word is written as a timetable, of whatever length."""
    return word != "" and has_only(word, LETTERS)


def is_number_word(word):
    """Return whether a word is a number of one or two digits without leading zeros."""
    if len(word) not in (1, 2) or not has_only(word, DIGITS):
        return False
    return len(word) == 1 or word[0] != "0"


def is_reminder_word(word):
    """Return whether a word is two numbers joined by a colon."""
    parts = word.split(":")
    return len(parts) == 2 and all([is_number_word(part) for part in parts])


def read_numbers(words):
    """Return the tuple of the numbers that words mean."""
    return tuple([int(word) for word in words])


def read_reminders(words):
    """Return the tuple of the reminders that words mean."""
    return tuple([read_numbers(word.split(":")) for word in words])


def keys_line(keys):
    """Return the line of a text for a number of keys."""
    return f"keys {keys}"


def careful_line(careful):
    """Return the line of a text for careful persons."""
    return " ".join(["careful", *[str(person) for person in careful]])


def remind_line(reminders):
    """Return the line of a text for reminders."""
    return " ".join(["remind", *[f"{tick}:{person}" for tick, person in reminders]])
