"""A bench on which a house is changed, and the texts of sessions."""

from doorkeys.checks import check_person
from doorkeys.errors import HouseError, InvalidName, InvalidOperation, TextFault, UnknownName
from doorkeys.houses import (
    LINE_WORDS, House, are_arguments, careful_line, has_only, is_number_word, is_table_word, keys_line, read_numbers,
    read_reminders, remind_line,
)
from doorkeys.waits import first_wait

LONGEST_NAME = 8
NAME_LETTERS = "abcdefghijklmnopqrstuvwxyz"
# The words of all operations, and how many arguments each of them has.
ARGUMENT_COUNTS = {"keys": 1, "table": 2, "careful": 1, "remind": 1, "undo": 0, "redo": 0}


class Bench:
    """A house that operations change, with undo, redo and snapshots."""

    def __init__(self, house):
        self._first = house
        # Each step is the word of an operation and the house after it; those behind the first `_done` are undone.
        # A tuple, so that snapshots can share it.
        self._steps = ()
        self._done = 0
        self._snapshots = {}

    @property
    def text(self):
        """The text of the present house."""
        return self._present().text

    @property
    def operations(self):
        """The list of the words of all operations in effect."""
        return [word for word, _ in self._steps[:self._done]]

    def set_keys(self, keys):
        """Replace the number of keys and return the first wait."""
        house = self._present()
        return self._accept("keys", House(house.tables, keys, house.careful, house.reminders))

    def set_table(self, person, table):
        """Replace the timetable of a person and return the first wait."""
        house = self._present()
        check_person(person, house.persons)
        tables = house.tables[:person] + (table,) + house.tables[person + 1:]
        return self._accept("table", House(tables, house.key_count, house.careful, house.reminders))

    def set_careful(self, *persons):
        """Replace the careful persons and return the first wait."""
        return self._replace_careful(persons)

    def set_reminders(self, *reminders):
        """Replace the reminders and return the first wait."""
        return self._replace_reminders(reminders)

    def undo(self):
        """Undo the last operation in effect and return whether there was one."""
        if self._done == 0:
            return False
        self._done -= 1
        return True

    def redo(self):
        """Repeat the operation that was undone last and return whether there was one."""
        if self._done == len(self._steps):
            return False
        self._done += 1
        return True

    def save(self, name):
        """Save the complete state under a name."""
        if not is_name(name):
            raise InvalidName("a name has one to eight letters a to z")
        self._snapshots[name] = (self._steps, self._done)

    def restore(self, name):
        """Restore the state that was saved under a name."""
        if not is_name(name) or name not in self._snapshots:
            raise UnknownName("there is no snapshot of this name")
        self._steps, self._done = self._snapshots[name]

    def batch(self, operations):
        """Execute operations, all or none, and return the list of their results."""
        check_operations(operations)
        steps, done = self._steps, self._done
        try:
            return [self._execute(operation) for operation in operations]
        except HouseError:
            self._steps, self._done = steps, done
            raise

    @classmethod
    def replay(cls, house, operations):
        """Return a new bench of a house after some operations."""
        if not isinstance(operations, list):
            raise InvalidOperation(0)
        bench = cls(house)
        for place, operation in enumerate(operations):
            try:
                bench.batch([operation])
            except HouseError:
                raise InvalidOperation(place) from None
        return bench

    def _present(self):
        """Return the present house."""
        if self._done == 0:
            return self._first
        return self._steps[self._done - 1][1]

    def _accept(self, word, house):
        """Make a house the present one by an operation and return its first wait."""
        self._steps = self._steps[:self._done] + ((word, house),)
        self._done += 1
        return first_wait(house)

    def _replace_careful(self, persons):
        """Replace the careful persons, given as one value, and return the first wait."""
        house = self._present()
        return self._accept("careful", House(house.tables, house.key_count, persons, house.reminders))

    def _replace_reminders(self, reminders):
        """Replace the reminders, given as one value, and return the first wait."""
        house = self._present()
        return self._accept("remind", House(house.tables, house.key_count, house.careful, reminders))

    def _execute(self, operation):
        """Execute an operation of a batch and return its result."""
        match operation:
            case ("keys", keys):
                return self.set_keys(keys)
            case ("table", person, table):
                return self.set_table(person, table)
            case ("careful", persons):
                return self._replace_careful(persons)
            case ("remind", reminders):
                return self._replace_reminders(reminders)
            case ("undo",):
                return self.undo()
        return self.redo()


def is_name(name):
    """Return whether a value is a name of a snapshot."""
    return isinstance(name, str) and 1 <= len(name) <= LONGEST_NAME and has_only(name, NAME_LETTERS)


def check_operations(operations):
    """Raise InvalidOperation unless this is a list of words with the right number of arguments."""
    if not isinstance(operations, list):
        raise InvalidOperation(0)
    for place, operation in enumerate(operations):
        if not is_operation(operation):
            raise InvalidOperation(place)


def is_operation(value):
    """Return whether a value is a tuple of a word and the right number of arguments."""
    if not isinstance(value, tuple) or not value or not isinstance(value[0], str):
        return False
    return value[0] in ARGUMENT_COUNTS and len(value) == 1 + ARGUMENT_COUNTS[value[0]]


def format_session(house, operations):
    """Return the text of a session: that of a house, and one line for each operation."""
    Bench.replay(house, operations)
    return "\n".join([house.text, *[operation_line(operation) for operation in operations]])


def operation_line(operation):
    """Return the line of a session for a valid operation."""
    match operation:
        case ("keys", keys):
            return keys_line(keys)
        case ("table", person, table):
            return f"table {person} {table}"
        case ("careful", persons):
            return careful_line(persons)
        case ("remind", reminders):
            return remind_line(reminders)
    return operation[0]


def parse_session(text):
    """Return the text of the house and the list of the operations of a session."""
    if not isinstance(text, str):
        raise TextFault(0)
    lines = text.split("\n")
    head = len(LINE_WORDS)
    house = House.parse("\n".join(lines[:head]))
    operations = [read_operation(line, number) for number, line in enumerate(lines[head:], start=head)]
    Bench.replay(house, operations)
    return (house.text, operations)


def read_operation(line, number):
    """Return the operation that a line with this number means."""
    word, *rest = line.split(" ")
    if not is_operation_line(word, rest):
        raise TextFault(number)
    if word == "keys":
        return (word, int(rest[0]))
    if word == "table":
        return (word, int(rest[0]), rest[1])
    if word == "careful":
        return (word, read_numbers(rest))
    if word == "remind":
        return (word, read_reminders(rest))
    return (word,)


def is_operation_line(word, rest):
    """Return whether a word of an operation and its arguments are written properly."""
    if word in ("undo", "redo"):
        return not rest
    if word == "table":
        return len(rest) == 2 and is_number_word(rest[0]) and is_table_word(rest[1])
    return word in ("keys", "careful", "remind") and are_arguments(word, rest)
