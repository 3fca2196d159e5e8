import math
import unittest

from doorkeys.encoding import decode, encode
from doorkeys.errors import InvalidCode
from doorkeys.houses import House
from tests.helpers import LARGEST, LENGTHS, NOT_LISTS, house_parts, parts_of, raised, small_house

PLAIN = House(("hooh", "hhoo"), 1)
PLAIN_CODE = [75, 2, 4, 1, 0, 0, 1, 4, 1, 1, 0, 0, 1, 0, 0, 90]
# Two persons with the period 6, both careful, and two reminders.
FULL = House(("hho", "ho"), 2, (0, 1), ((1, 0), (5, 1)))
FULL_CODE = [75, 2, 3, 1, 1, 0, 2, 1, 0, 2, 2, 0, 1, 2, 1, 0, 5, 1, 99]
COUNT_OF_CAREFUL, COUNT_OF_REMINDERS = 10, 13
WRONG_BYTES = (-1, 256, 10 ** 20, True, False, None, "0", "", (), (0,), [], [0])


def sealed(code):
    """Return a list of bytes with its checksum."""
    return [*code, sum(code) % 256]


def choices():
    """Yield which bytes can stand at each place, straight from the document; what stands there is sent back."""
    code = [(yield {75})]
    persons = yield set(range(1, 7))
    code.append(persons)
    period = 1
    for _ in range(persons):
        length = yield set(LENGTHS)
        code.append(length)
        period = math.lcm(period, length)
        for _ in range(length):
            code.append((yield {0, 1}))
    code.append((yield set(range(10))))
    many = yield set(range(persons + 1))
    code.append(many)
    last = -1
    for _ in range(many):
        last = yield {person for person in range(persons) if person > last}
        code.append(last)
    many = yield set(range(11))
    code.append(many)
    pair = (-1, -1)
    for _ in range(many):
        tick = yield {byte for byte in range(period) if byte >= pair[0]}
        person = yield {byte for byte in range(persons) if (tick, byte) > pair}
        pair = (tick, person)
        code.extend(pair)
    yield {sum(code) % 256}


def first_fault(code):
    """Return the first place at which a list of bytes is wrong, or None."""
    walk = choices()
    allowed = next(walk)
    for place, byte in enumerate(code):
        if type(byte) is not int or byte not in allowed:
            return place
        try:
            allowed = walk.send(byte)
        except StopIteration:
            return place + 1 if place + 1 < len(code) else None
    return len(code)


class EncodeTest(unittest.TestCase):
    def test_example(self):
        self.assertEqual(encode(PLAIN), PLAIN_CODE)

    def test_all_parts(self):
        self.assertEqual(encode(FULL), FULL_CODE)

    def test_smallest_house(self):
        self.assertEqual(encode(House(("o",), 0)), [75, 1, 1, 0, 0, 0, 0, 77])

    def test_largest_house(self):
        code = encode(LARGEST)
        self.assertEqual(len(code), 2 + 6 * 25 + 1 + 7 + 21 + 1)
        self.assertGreater(sum(code[:-1]), 256)
        self.assertEqual(code[-1], sum(code[:-1]) % 256)
        self.assertEqual(parts_of(decode(code)), parts_of(LARGEST))

    def test_list_is_new(self):
        encode(PLAIN).append(7)
        self.assertEqual(encode(PLAIN), PLAIN_CODE)


class DecodeTest(unittest.TestCase):
    def test_example(self):
        self.assertEqual(decode(PLAIN_CODE).tables, ("hooh", "hhoo"))

    def test_all_parts(self):
        house = decode(FULL_CODE)
        self.assertIs(type(house), House)
        self.assertEqual(parts_of(house), parts_of(FULL))

    def test_many_houses(self):
        for seed in range(200):
            for house in (House(*house_parts(seed)), small_house(seed)):
                code = encode(house)
                self.assertIsNone(first_fault(code))
                self.assertEqual(parts_of(decode(code)), parts_of(house))

    def test_list_stays_as_it_is(self):
        code = list(FULL_CODE)
        self.assertEqual(parts_of(decode(code)), parts_of(decode(code)))
        self.assertEqual(code, FULL_CODE)
        wrong = [75, 1, 5]
        raised(decode, wrong)
        self.assertEqual(wrong, [75, 1, 5])


class InvalidCodeTest(unittest.TestCase):
    def assert_place(self, place, code):
        error = raised(decode, code)
        self.assertIs(type(error), InvalidCode, code)
        self.assertEqual(error.place, place, code)

    def test_example(self):
        self.assert_place(2, [75, 1, 5])

    def test_values_that_are_no_lists(self):
        for code in (*NOT_LISTS, tuple(PLAIN_CODE), "K"):
            self.assert_place(0, code)

    def test_cut_at_each_place(self):
        for code in (PLAIN_CODE, FULL_CODE, encode(LARGEST)):
            for place in range(len(code)):
                self.assert_place(place, code[:place])

    def test_extended_at_the_end(self):
        for code in (PLAIN_CODE, FULL_CODE, encode(LARGEST)):
            for more in ([0], [code[-1]], [255], [None], [True], [0, 0], [-1, 0]):
                self.assert_place(len(code), code + more)

    def test_changed_at_each_place(self):
        for code in (PLAIN_CODE, FULL_CODE, encode(House(("ohho", "o", "hoh"), 9, (1,), ((1, 0), (1, 2), (11, 1))))):
            for place in range(len(code)):
                for byte in range(256):
                    self.assert_change(code, place, byte)
                for byte in WRONG_BYTES:
                    self.assert_place(place, code[:place] + [byte] + code[place + 1:])

    def test_largest_house_changed_at_each_place(self):
        code = encode(LARGEST)
        for place in range(len(code)):
            for byte in (0, 1, 2, 5, 6, 9, 10, 11, 22, 23, 24, 25, 255):
                self.assert_change(code, place, byte)

    def assert_change(self, code, place, byte):
        """Check a byte at a place, with the checksum that stands there, and with the right one."""
        changed = code[:place] + [byte] + code[place + 1:]
        for other in (changed, sealed(changed[:-1])):
            expected = first_fault(other)
            if expected is None:
                self.assertEqual(encode(decode(other)), other)
            else:
                self.assert_place(expected, other)

    def test_header(self):
        for byte in (0, 74, 76, 255, *WRONG_BYTES):
            self.assert_place(0, [byte, *PLAIN_CODE[1:]])

    def test_number_of_persons(self):
        for byte in (0, 7, 255):
            self.assert_place(1, [75, byte, 1, 0])

    def test_lengths_of_timetables(self):
        for length in range(256):
            self.assert_place(3 if length in LENGTHS else 2, [75, 2, length])
            self.assert_place(5 if length in LENGTHS else 4, [75, 2, 1, 1, length])

    def test_letters(self):
        self.assert_place(3, [75, 1, 2, 2, 0])
        self.assert_place(4, [75, 1, 2, 1, 104])

    def test_booleans_are_no_bytes(self):
        self.assert_place(3, [75, 1, 1, True, 0, 0, 0, 78])
        self.assert_place(3, [75, 1, 1, False, 0, 0, 0, 77])

    def test_number_of_keys(self):
        self.assertEqual(decode(sealed([75, 1, 1, 0, 9, 0, 0])).key_count, 9)
        self.assert_place(4, sealed([75, 1, 1, 0, 10, 0, 0]))

    def test_number_of_careful_persons(self):
        code = FULL_CODE[:COUNT_OF_CAREFUL]
        self.assert_place(COUNT_OF_CAREFUL, code + [3, 0, 1, 1])
        # As many as there are persons, though the first one leaves no others.
        self.assert_place(COUNT_OF_CAREFUL + 2, code + [2, 1, 0])
        self.assert_place(COUNT_OF_CAREFUL + 2, code + [2, 1, 1])
        self.assert_place(COUNT_OF_CAREFUL + 2, code + [2, 1])
        self.assert_place(COUNT_OF_CAREFUL + 1, code + [1, 2])

    def test_number_of_reminders(self):
        code = FULL_CODE[:COUNT_OF_REMINDERS]
        self.assert_place(COUNT_OF_REMINDERS, code + [11, 0, 0])
        self.assert_place(COUNT_OF_REMINDERS + 1, code + [10])
        # Ten are allowed, though this house has only one tick and one person.
        self.assert_place(10, [75, 1, 1, 0, 0, 0, 10, 0, 0, 0, 0])
        self.assert_place(10, [75, 1, 1, 0, 0, 0, 10, 0, 0, 0, 1])
        self.assert_place(9, [75, 1, 1, 0, 0, 0, 10, 0, 0, 1, 0])

    def test_reminders_out_of_range(self):
        code = FULL_CODE[:COUNT_OF_REMINDERS] + [2, 1, 1]
        self.assert_place(COUNT_OF_REMINDERS + 3, code + [6, 0])
        self.assert_place(COUNT_OF_REMINDERS + 4, code + [5, 2])

    def test_reminders_that_are_not_greater_than_the_one_before(self):
        code = FULL_CODE[:COUNT_OF_REMINDERS] + [2, 3, 1]
        tick, person = COUNT_OF_REMINDERS + 3, COUNT_OF_REMINDERS + 4
        for pair in ([2, 0], [2, 1], [0, 1]):
            self.assert_place(tick, sealed(code + pair))
        # At the person if the ticks are equal, also where no greater person follows.
        for pair in ([3, 0], [3, 1]):
            self.assert_place(person, sealed(code + pair))
        for pair in ([4, 0], [5, 1]):
            self.assertEqual(decode(sealed(code + pair)).reminders, ((3, 1), tuple(pair)))

    def test_checksum(self):
        for byte in range(256):
            if byte != PLAIN_CODE[-1]:
                self.assert_place(len(PLAIN_CODE) - 1, PLAIN_CODE[:-1] + [byte])
        self.assert_place(len(PLAIN_CODE) - 1, PLAIN_CODE[:-1] + [91, 0])


if __name__ == "__main__":
    unittest.main()
