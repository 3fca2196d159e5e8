import unittest

from doorkeys.errors import HouseError, InvalidHouse, InvalidTick, UnknownPerson
from doorkeys.houses import House
from tests.helpers import LENGTHS, NOT_INTEGERS, house_parts, raised

DAY = "h" * 24


class ValidHouseTest(unittest.TestCase):
    def test_example(self):
        house = House(("hooh", "hhoo"), 1)
        self.assertEqual([house.persons, house.key_count], [2, 1])
        self.assertEqual(house.period, 4)
        self.assertIs(house.wants_home(0, 5), False)

    def test_attributes(self):
        house = House(("hooh", "hhoo"), 2, (0, 1), ((0, 1), (3, 0)))
        self.assertEqual(house.tables, ("hooh", "hhoo"))
        self.assertEqual(house.key_count, 2)
        self.assertEqual(house.careful, (0, 1))
        self.assertEqual(house.reminders, ((0, 1), (3, 0)))

    def test_nobody_is_careful_and_nothing_reminds_if_not_given(self):
        house = House(("h",), 0)
        self.assertEqual((house.careful, house.reminders), ((), ()))

    def test_names_of_the_arguments(self):
        house = House(tables=("ho",), keys=3, careful=(0,), reminders=((1, 0),))
        self.assertEqual(house.key_count, 3)
        self.assertIs(house.wants_home(person=0, tick=1), False)

    def test_listed_methods_stand_in_the_class(self):
        for name in ("persons", "period", "wants_home", "text", "parse"):
            self.assertIn(name, vars(House))

    def test_largest_house(self):
        reminders = tuple((tick, person) for tick in (22, 23) for person in range(1, 6))
        house = House((DAY,) * 6, 9, (0, 1, 2, 3, 4, 5), reminders)
        self.assertEqual((house.persons, house.period, house.key_count), (6, 24, 9))
        self.assertEqual(len(house.reminders), 10)

    def test_smallest_house(self):
        house = House(("o",), 0)
        self.assertEqual((house.persons, house.period, house.key_count), (1, 1, 0))

    def test_every_length_of_a_timetable(self):
        for length in range(1, 30):
            error = raised(House, ("o" * length,), 0)
            self.assertEqual(error is None, length in LENGTHS, length)

    def test_every_number_of_keys(self):
        for keys in range(10):
            self.assertEqual(House(("h",), keys).key_count, keys)

    def test_period_is_the_least_common_multiple(self):
        periods = [
            (("h", "o"), 1), (("ho", "h"), 2), (("ho", "hho"), 6), (("hoho", "hhhooo"), 12),
            (("hhhhoooo", "hho"), 24), (("hhho", "hho", "ho"), 12), (("h" * 8, "o" * 12), 24),
        ]
        for tables, period in periods:
            self.assertEqual(House(tables, 0).period, period)

    def test_last_reminder_of_the_period(self):
        house = House(("ho", "hho"), 1, (), ((5, 1),))
        self.assertEqual(house.reminders, ((5, 1),))
        self.assert_house_error(("reminders", 0), ("ho", "hho"), 1, (), ((6, 1),))

    def assert_house_error(self, expected, *arguments):
        error = raised(House, *arguments)
        self.assertIs(type(error), InvalidHouse)
        self.assertEqual((error.part, error.index), expected)


class WantsHomeTest(unittest.TestCase):
    def test_letters_repeat(self):
        house = House(("hoo", "oh"), 0)
        first = [house.wants_home(0, tick) for tick in range(6)]
        second = [house.wants_home(1, tick) for tick in range(6)]
        self.assertEqual(first, [True, False, False] * 2)
        self.assertEqual(second, [False, True] * 3)

    def test_last_tick(self):
        house = House(("hoo", "h" + "o" * 23), 0)
        self.assertEqual(10 ** 18 % 3, 1)
        self.assertIs(house.wants_home(0, 10 ** 18), False)
        self.assertIs(house.wants_home(0, 10 ** 18 - 1), True)

    def test_unknown_persons(self):
        house = House(("ho", "oh"), 0)
        for person in (-1, 2, 6) + NOT_INTEGERS:
            self.assertIs(type(raised(house.wants_home, person, 0)), UnknownPerson)

    def test_invalid_ticks(self):
        house = House(("ho", "oh"), 0)
        for tick in (-1, 10 ** 18 + 1) + NOT_INTEGERS:
            self.assertIs(type(raised(house.wants_home, 0, tick)), InvalidTick)

    def test_persons_are_checked_before_ticks(self):
        house = House(("ho",), 0)
        self.assertIs(type(raised(house.wants_home, 1, -1)), UnknownPerson)


class InvalidHouseTest(unittest.TestCase):
    def assert_fault(self, part, index, *arguments):
        error = raised(House, *arguments)
        self.assertIs(type(error), InvalidHouse, arguments)
        self.assertIsInstance(error, HouseError)
        self.assertEqual((error.part, error.index), (part, index), arguments)

    def test_example(self):
        self.assert_fault("tables", 1, ("hho", "hx"), 1)

    def test_tables_that_are_no_tuple(self):
        for tables in (None, True, 5, "ho", ["ho"], [], ""):
            self.assert_fault("tables", 0, tables, 1)

    def test_no_timetables(self):
        self.assert_fault("tables", 0, (), 1)

    def test_one_timetable_too_many(self):
        self.assert_fault("tables", 6, ("h",) * 7, 1)
        self.assert_fault("tables", 6, ("h",) * 9, 1)
        self.assert_fault("tables", 6, ("h",) * 6 + ("x",), 1)

    def test_first_invalid_timetable_counts(self):
        self.assert_fault("tables", 2, ("h", "ho", "x", "h", "", "h", "h"), 1)
        self.assert_fault("tables", 5, ("h",) * 5 + ("hx", "h"), 1)

    def test_invalid_timetables(self):
        for table in ("", "x", "H", "hO", "h o", "ho\n", "hohoh", "h" * 25, "h" * 48, None, 1, True, ("h",), ["h"]):
            self.assert_fault("tables", 1, ("h", table), 1)

    def test_invalid_keys(self):
        for keys in (-1, 10, 10 ** 20) + NOT_INTEGERS:
            self.assert_fault("keys", 0, ("h",), keys)

    def test_careful_that_is_no_tuple(self):
        for careful in (None, True, 0, "0", [0], []):
            self.assert_fault("careful", 0, ("h", "o"), 1, careful)

    def test_invalid_careful_persons(self):
        for person in (-1, 2, 9) + NOT_INTEGERS:
            self.assert_fault("careful", 0, ("h", "o"), 1, (person,))
            self.assert_fault("careful", 1, ("h", "o"), 1, (0, person, -1))

    def test_careful_persons_ascend(self):
        self.assert_fault("careful", 1, ("h",) * 4, 1, (1, 1))
        self.assert_fault("careful", 2, ("h",) * 4, 1, (1, 3, 2, 9))
        self.assert_fault("careful", 1, ("h",) * 4, 1, (3, 0, 4))
        self.assert_fault("careful", 2, ("h", "o"), 1, (0, 1, 1))

    def test_reminders_that_are_no_tuple(self):
        for reminders in (None, True, 0, "0:0", [(0, 0)], []):
            self.assert_fault("reminders", 0, ("ho",), 1, (), reminders)

    def test_invalid_reminders(self):
        items = [
            None, True, 0, "00", [1, 1], (), (1,), (1, 1, 1), (-1, 0), (4, 0), (1, -1), (1, 2),
            (True, 0), (1, False), ("1", 0), (1, "0"), (None, 0), (1, None), ((1,), 0), (1, [0]),
        ]
        for item in items:
            self.assert_fault("reminders", 0, ("ho", "hhoo"), 1, (), (item,))
            self.assert_fault("reminders", 1, ("ho", "hhoo"), 1, (), ((0, 1), item, None))

    def test_reminders_ascend(self):
        tables = ("ho", "hhoo")
        self.assert_fault("reminders", 1, tables, 1, (), ((1, 0), (1, 0)))
        self.assert_fault("reminders", 1, tables, 1, (), ((1, 1), (1, 0)))
        self.assert_fault("reminders", 2, tables, 1, (), ((1, 0), (2, 1), (1, 1), (9, 9)))

    def test_one_reminder_too_many(self):
        many = tuple((tick, 0) for tick in range(12))
        self.assertEqual(House((DAY,), 1, (), many[:10]).reminders, many[:10])
        self.assert_fault("reminders", 10, (DAY,), 1, (), many[:11])
        self.assert_fault("reminders", 10, (DAY,), 1, (), many)
        self.assert_fault("reminders", 10, (DAY,), 1, (), many[:10] + (None,))
        self.assert_fault("reminders", 9, (DAY,), 1, (), many[:9] + (None,) + many[9:])

    def test_parts_are_checked_from_left_to_right(self):
        self.assert_fault("tables", 0, ("x",), 10, (9,), None)
        self.assert_fault("keys", 0, ("h",), 10, (9,), None)
        self.assert_fault("careful", 0, ("h",), 9, (9,), None)
        self.assert_fault("reminders", 0, ("h",), 9, (0,), None)


class UnchangedTest(unittest.TestCase):
    def test_failing_calls_change_nothing(self):
        house = House(("hooh", "hhoo"), 1, (1,), ((2, 0),))
        raised(house.wants_home, 7, 0)
        raised(house.wants_home, 0, -1)
        raised(House.parse, "tables")
        self.assertEqual(house.tables, ("hooh", "hhoo"))
        self.assertEqual((house.key_count, house.careful, house.reminders), (1, (1,), ((2, 0),)))

    def test_same_results_again(self):
        for seed in range(20):
            house = House(*house_parts(seed))
            results = [(house.persons, house.period, house.text, house.wants_home(0, 7)) for _ in range(2)]
            self.assertEqual(results[0], results[1])


if __name__ == "__main__":
    unittest.main()
