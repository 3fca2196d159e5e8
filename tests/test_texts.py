import unittest

from doorkeys.errors import InvalidHouse, TextFault
from doorkeys.houses import House
from tests.helpers import house_parts, raised

GOOD = ("tables hho ho", "keys 2", "careful 0 1", "remind 1:0 5:1")


def with_line(number, line):
    """Return the good text with another line at this place."""
    return "\n".join([*GOOD[:number], line, *GOOD[number + 1:]])


class TextTest(unittest.TestCase):
    def test_example(self):
        house = House(("hooh", "hhoo"), 1)
        self.assertEqual(house.text, "tables hooh hhoo\nkeys 1\ncareful\nremind")

    def test_all_parts(self):
        house = House(("hho", "ho"), 2, (0, 1), ((1, 0), (5, 1)))
        self.assertEqual(house.text, "\n".join(GOOD))

    def test_numbers_with_two_digits(self):
        house = House(("h" * 24,), 0, (), ((9, 0), (23, 0)))
        self.assertEqual(house.text.split("\n")[3], "remind 9:0 23:0")


class ParseTest(unittest.TestCase):
    def test_example(self):
        house = House.parse("tables hho\nkeys 2\ncareful 0\nremind 1:0")
        self.assertEqual(house.reminders, ((1, 0),))

    def test_all_parts(self):
        house = House.parse("\n".join(GOOD))
        self.assertIs(type(house), House)
        self.assertEqual(house.tables, ("hho", "ho"))
        self.assertEqual(house.key_count, 2)
        self.assertEqual(house.careful, (0, 1))
        self.assertEqual(house.reminders, ((1, 0), (5, 1)))

    def test_text_and_back(self):
        for seed in range(100):
            house = House(*house_parts(seed))
            again = House.parse(house.text)
            self.assertEqual(again.text, house.text)
            self.assertEqual(
                (again.tables, again.key_count, again.careful, again.reminders), house_parts(seed)
            )


class TextFaultTest(unittest.TestCase):
    def assert_line(self, line, text):
        error = raised(House.parse, text)
        self.assertIs(type(error), TextFault, repr(text))
        self.assertEqual(error.line, line, repr(text))

    def test_example(self):
        self.assert_line(1, "tables hho\nkeys x")

    def test_no_string(self):
        for text in (None, True, 5, ("tables h",), ["tables h"], ()):
            self.assert_line(0, text)

    def test_missing_lines(self):
        self.assert_line(0, "")
        for count in (1, 2, 3):
            self.assert_line(count, "\n".join(GOOD[:count]))

    def test_missing_line_in_between(self):
        for number in range(3):
            self.assert_line(number, "\n".join(GOOD[:number] + GOOD[number + 1:]))
            self.assert_line(number, with_line(number, ""))

    def test_superfluous_lines(self):
        self.assert_line(4, "\n".join(GOOD) + "\n")
        self.assert_line(4, "\n".join(GOOD) + "\nundo")
        self.assert_line(4, "\n".join(GOOD) + "\n\n")
        self.assert_line(0, "\n" + "\n".join(GOOD))

    def test_other_words(self):
        for number, word in enumerate(("table", "key", "Careful", "reminders")):
            line = " ".join([word, *GOOD[number].split(" ")[1:]])
            self.assert_line(number, with_line(number, line))

    def test_empty_words(self):
        for number, line in enumerate(GOOD):
            self.assert_line(number, with_line(number, line + " "))
            self.assert_line(number, with_line(number, " " + line))
            self.assert_line(number, with_line(number, line.replace(" ", "  ", 1)))

    def test_timetables(self):
        for table in ("x", "hx", "H", "h,o", "h\to", "0", ""):
            self.assert_line(0, with_line(0, "tables h " + table))

    def test_numbers(self):
        for number in ("00", "01", "100", "-1", "+1", "x", "1x", "1.", "0x1", "1_0", ""):
            self.assert_line(1, with_line(1, "keys " + number))
            self.assert_line(2, with_line(2, "careful 0 " + number))
            self.assert_line(3, with_line(3, "remind " + number + ":0"))
            self.assert_line(3, with_line(3, "remind 0:0 1:" + number))

    def test_digits_of_other_scripts(self):
        self.assert_line(1, with_line(1, "keys \u0661"))
        self.assert_line(1, with_line(1, "keys \u00b2"))

    def test_count_of_keys(self):
        for line in ("keys", "keys 1 2", "keys 1 1 1"):
            self.assert_line(1, with_line(1, line))

    def test_colons(self):
        for reminder in ("1", "1:", ":1", ":", "1::0", "1:0:0", "1:0:", "1;0"):
            self.assert_line(3, with_line(3, "remind 0:0 " + reminder))

    def test_first_invalid_line_counts(self):
        self.assert_line(0, "tables x\nkeys x\ncareful x\nremind x\nmore")
        self.assert_line(1, "tables h\nkeys x\ncareful x\nremind x\nmore")
        self.assert_line(2, "tables h\nkeys 1\ncareful x\nremind x\nmore")
        self.assert_line(3, "tables h\nkeys 1\ncareful\nremind x\nmore")


class InvalidHouseOfTextTest(unittest.TestCase):
    def assert_fault(self, part, index, text):
        error = raised(House.parse, text)
        self.assertIs(type(error), InvalidHouse, repr(text))
        self.assertEqual((error.part, error.index), (part, index), repr(text))

    def test_tables(self):
        self.assert_fault("tables", 0, with_line(0, "tables"))
        self.assert_fault("tables", 1, with_line(0, "tables h hohoh"))
        self.assert_fault("tables", 6, with_line(0, "tables" + " h" * 7))

    def test_keys(self):
        self.assertEqual(House.parse(with_line(1, "keys 9")).key_count, 9)
        self.assert_fault("keys", 0, with_line(1, "keys 10"))
        self.assert_fault("keys", 0, with_line(1, "keys 99"))

    def test_careful(self):
        self.assert_fault("careful", 0, with_line(2, "careful 2"))
        self.assert_fault("careful", 1, with_line(2, "careful 1 1"))
        self.assert_fault("careful", 1, with_line(2, "careful 0 99"))

    def test_reminders(self):
        self.assert_fault("reminders", 0, with_line(3, "remind 6:0"))
        self.assert_fault("reminders", 1, with_line(3, "remind 5:0 5:2"))
        self.assert_fault("reminders", 2, with_line(3, "remind 1:0 5:0 2:0"))
        pairs = " ".join(f"{tick}:{person}" for tick in range(6) for person in range(2))
        self.assert_fault("reminders", 10, with_line(3, "remind " + pairs))

    def test_text_faults_come_first(self):
        error = raised(House.parse, "tables hohoh\nkeys 99\ncareful 9\nremind 1")
        self.assertIs(type(error), TextFault)
        self.assertEqual(error.line, 3)


if __name__ == "__main__":
    unittest.main()
