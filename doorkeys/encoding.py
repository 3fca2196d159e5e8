"""Houses as lists of bytes."""

from doorkeys.checks import is_integer
from doorkeys.errors import InvalidCode
from doorkeys.houses import MOST_KEYS, MOST_PERSONS, MOST_REMINDERS, TABLE_LENGTHS, House, common_period

HEADER = 75
# The place of a letter is its byte.
CODED_LETTERS = "oh"


def encode(house):
    """Return the list of the bytes of a house."""
    code = [HEADER, house.persons]
    for table in house.tables:
        code.append(len(table))
        code.extend([CODED_LETTERS.index(letter) for letter in table])
    code.append(house.key_count)
    code.extend([len(house.careful), *house.careful])
    code.append(len(house.reminders))
    for tick, person in house.reminders:
        code.extend([tick, person])
    return [*code, checksum(code)]


def decode(code):
    """Return the house of a list of bytes."""
    if not isinstance(code, list):
        raise InvalidCode(0)
    reader = Reader(code)
    reader.take([HEADER])
    persons = reader.take_between(1, MOST_PERSONS)
    tables = tuple([read_table(reader) for _ in range(persons)])
    keys = reader.take_between(0, MOST_KEYS)
    careful = read_careful(reader, persons)
    reminders = read_pairs(reader, common_period(tables), persons)
    reader.take([checksum(code[:reader.place])])
    if reader.place < len(code):
        raise InvalidCode(reader.place)
    return House(tables, keys, careful, reminders)


def checksum(code):
    """Return the byte that follows these bytes at the end."""
    return sum(code) % 256


class Reader:
    """Reads a list of bytes from its beginning; `place` is that of the next byte."""

    def __init__(self, code):
        self.code = code
        self.place = 0

    def take(self, allowed):
        """Return the next byte, which must be one of these."""
        if self.place == len(self.code):
            raise InvalidCode(self.place)
        byte = self.code[self.place]
        if not is_integer(byte) or byte not in allowed:
            raise InvalidCode(self.place)
        self.place += 1
        return byte

    def take_between(self, low, high):
        """Return the next byte, which must be from a lowest to a highest one."""
        return self.take(list(range(low, high + 1)))


def read_table(reader):
    """Return the timetable that comes next."""
    length = reader.take(TABLE_LENGTHS)
    return "".join([CODED_LETTERS[reader.take_between(0, 1)] for _ in range(length)])


def read_careful(reader, persons):
    """Return the careful persons that come next, behind their number."""
    count = reader.take_between(0, persons)
    careful = []
    last = -1
    for _ in range(count):
        last = reader.take_between(last + 1, persons - 1)
        careful.append(last)
    return tuple(careful)


def read_pairs(reader, period, persons):
    """Return the reminders that come next, behind their number."""
    count = reader.take_between(0, MOST_REMINDERS)
    reminders = []
    last_tick, last_person = 0, -1
    for _ in range(count):
        tick = reader.take_between(last_tick, period - 1)
        lowest = last_person + 1 if tick == last_tick else 0
        person = reader.take_between(lowest, persons - 1)
        reminders.append((tick, person))
        last_tick, last_person = tick, person
    return tuple(reminders)
