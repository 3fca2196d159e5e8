import random
import unittest

from doorkeys.bench import Bench, format_session, parse_session
from doorkeys.errors import InvalidHouse, InvalidOperation, TextFault
from doorkeys.houses import House
from tests.helpers import LARGEST, NOT_LISTS, house_parts, raised
from tests.test_bench import EVERY_KIND, FAILING, MALFORMED, PLAIN, TEXT, some_operation

LINES = ["keys 2", "table 0 hho", "careful 0 1", "remind 1:0 11:1", "undo", "redo"]


def session(*lines):
    return "\n".join([TEXT, *lines])


class FormatTest(unittest.TestCase):
    def test_example(self):
        text = format_session(House(("ho",), 1), [("remind", ((1, 0),)), ("undo",)])
        self.assertEqual(text, "tables ho\nkeys 1\ncareful\nremind\nremind 1:0\nundo")

    def test_no_operations(self):
        self.assertEqual(format_session(PLAIN, []), TEXT)
        self.assertEqual(format_session(LARGEST, []), LARGEST.text)

    def test_every_kind(self):
        self.assertEqual(format_session(PLAIN, EVERY_KIND), session(*LINES))

    def test_no_persons_and_no_reminders(self):
        self.assertEqual(format_session(PLAIN, [("careful", ()), ("remind", ())]), session("careful", "remind"))

    def test_numbers_with_two_digits(self):
        operations = [("table", 1, "h" * 24), ("remind", ((9, 1), (10, 0), (23, 1)))]
        self.assertEqual(
            format_session(PLAIN, operations), session("table 1 " + "h" * 24, "remind 9:1 10:0 23:1")
        )

    def test_arguments_stay_as_they_are(self):
        operations = list(EVERY_KIND)
        results = [format_session(PLAIN, operations), format_session(PLAIN, operations)]
        self.assertEqual(results[0], results[1])
        self.assertEqual((operations, PLAIN.text), (EVERY_KIND, TEXT))

    def test_values_that_are_no_lists(self):
        for operations in NOT_LISTS:
            self.assert_place(0, operations)

    def test_malformed_and_failing_entries(self):
        for entry in (*MALFORMED, *[operation for operation, _ in FAILING]):
            self.assert_place(0, [entry])
            self.assert_place(2, [("keys", 3), ("undo",), entry])
        self.assert_place(1, [("undo",), ("keys", 10), ("keys",)])
        self.assert_place(1, [("undo",), ("keys",), ("keys", 10)])

    def assert_place(self, place, operations):
        error = raised(format_session, PLAIN, operations)
        self.assertIs(type(error), InvalidOperation, operations)
        self.assertEqual(error.place, place, operations)


class ParseTest(unittest.TestCase):
    def test_example(self):
        text = "tables ho\nkeys 1\ncareful\nremind"
        self.assertEqual(parse_session(text + "\ntable 0 hho")[1], [("table", 0, "hho")])

    def test_no_operations(self):
        self.assertEqual(parse_session(TEXT), (TEXT, []))
        self.assertEqual(parse_session(LARGEST.text), (LARGEST.text, []))

    def test_every_kind(self):
        self.assertEqual(parse_session(session(*LINES)), (TEXT, EVERY_KIND))

    def test_lines_of_the_document(self):
        text = "tables ho ho hhhooo\nkeys 1\ncareful\nremind"
        lines = ["keys 2", "table 0 hho", "careful 0 2", "remind 3:0 5:1", "undo"]
        operations = [
            ("keys", 2), ("table", 0, "hho"), ("careful", (0, 2)), ("remind", ((3, 0), (5, 1))), ("undo",),
        ]
        self.assertEqual(parse_session("\n".join([text, *lines])), (text, operations))
        self.assertEqual(format_session(House.parse(text), operations), "\n".join([text, *lines]))

    def test_no_persons_and_no_reminders(self):
        self.assertEqual(parse_session(session("careful", "remind"))[1], [("careful", ()), ("remind", ())])

    def test_lists_are_new(self):
        parse_session(session("undo"))[1].clear()
        self.assertEqual(parse_session(session("undo")), (TEXT, [("undo",)]))

    def test_many_sessions(self):
        for seed in range(200):
            chance = random.Random(seed)
            house = House(*house_parts(seed))
            operations = []
            for _ in range(12):
                operation = some_operation(chance)
                if raised(Bench.replay, house, operations + [operation]) is None:
                    operations.append(operation)
            text = format_session(house, operations)
            self.assertEqual(len(text.split("\n")), 4 + len(operations))
            self.assertEqual(parse_session(text), (house.text, operations))


class FaultTest(unittest.TestCase):
    def assert_line(self, line, text):
        error = raised(parse_session, text)
        self.assertIs(type(error), TextFault, repr(text))
        self.assertEqual(error.line, line, repr(text))

    def assert_part(self, part, index, text):
        error = raised(parse_session, text)
        self.assertIs(type(error), InvalidHouse, repr(text))
        self.assertEqual((error.part, error.index), (part, index), repr(text))

    def assert_place(self, place, text):
        error = raised(parse_session, text)
        self.assertIs(type(error), InvalidOperation, repr(text))
        self.assertEqual(error.place, place, repr(text))

    def test_no_string(self):
        for text in (None, True, False, 5, (), (TEXT,), [], [TEXT]):
            self.assert_line(0, text)

    def test_missing_lines_of_the_house(self):
        lines = TEXT.split("\n")
        self.assert_line(0, "")
        for count in (1, 2, 3):
            self.assert_line(count, "\n".join(lines[:count]))
            self.assert_line(count, "\n".join([*lines[:count], "undo"]))
            self.assert_line(count, "\n".join([*lines[:count], "undo", "undo", "undo", "undo"]))

    def test_invalid_lines_of_the_house(self):
        lines = TEXT.split("\n")
        wrong = (
            ("tables hx", "table h", "tables ", "tables  h", "tables h ", ""),
            ("keys", "keys 01", "keys 1 2", "keys 100", "keys -1", "keys x"),
            ("careful ", "careful 00", "careful x", "Careful", "careful 0,1"),
            ("remind 1", "remind 1:", "remind 1:0:0", "remind 01:0", "remind  1:0", "reminders"),
        )
        for number, others in enumerate(wrong):
            for line in others:
                self.assert_line(number, "\n".join([*lines[:number], line, *lines[number + 1:], "undo"]))

    def test_invalid_houses(self):
        self.assert_part("tables", 1, "tables h hohoh\nkeys 1\ncareful\nremind\nundo")
        self.assert_part("tables", 0, "tables\nkeys 1\ncareful\nremind\nundo")
        self.assert_part("keys", 0, "tables h\nkeys 10\ncareful\nremind\nundo")
        self.assert_part("careful", 0, "tables h\nkeys 1\ncareful 1\nremind\nundo")
        self.assert_part("reminders", 1, "tables ho\nkeys 1\ncareful\nremind 1:0 0:0\nundo")

    def test_invalid_words(self):
        for line in ("", " ", "Undo", "undone", "und", "key 2", "tables 0 h", "reminder 1:0", "save a", "5", "keys2"):
            self.assert_line(4, session(line))
            self.assert_line(6, session("undo", "keys 2", line, "x"))

    def test_line_feed_at_the_end(self):
        self.assert_line(4, TEXT + "\n")
        self.assert_line(5, session("undo", ""))
        self.assert_line(5, session("undo", "", "undo"))

    def test_too_few_or_too_many_arguments(self):
        for line in ("undo 1", "undo 0", "redo 1", "redo undo", "keys", "keys 1 2", "table", "table 0", "table 0 h h"):
            self.assert_line(4, session(line))

    def test_spaces(self):
        for line in LINES:
            self.assert_line(4, session(line + " "))
            self.assert_line(4, session(" " + line))
            if " " in line:
                self.assert_line(4, session(line.replace(" ", "  ", 1)))

    def test_arguments_that_are_not_written_so(self):
        for number in ("", "00", "01", "100", "-1", "+1", "x", "1x", "1.", "0x1", "1_0", "h", "\u0661", "\u00b2"):
            self.assert_line(4, session("keys " + number))
            self.assert_line(4, session("table " + number + " h"))
            self.assert_line(4, session("careful " + number))
            self.assert_line(4, session("careful 0 " + number))
            self.assert_line(4, session("remind " + number + ":0"))
            self.assert_line(4, session("remind 0:0 1:" + number))
        for reminder in ("1", "1:", ":1", ":", "1::0", "1:0:0", "1:0:", "1;0"):
            self.assert_line(4, session("remind " + reminder))
        for table in ("x", "hx", "H", "h,o", "0", ""):
            self.assert_line(4, session("table 0 " + table))
        self.assert_line(4, session("table h 0"))

    def test_failing_operations(self):
        lines = (
            "keys 10", "keys 99", "table 2 h", "table 99 h", "table 0 hohoh", "table 0 " + "h" * 25, "careful 2",
            "careful 1 0", "careful 0 0", "careful 0 1 1 1", "remind 4:0", "remind 1:2", "remind 1:0 1:0",
            "remind 99:99",
        )
        for line in lines:
            self.assert_place(0, session(line))
            self.assert_place(2, session("undo", "keys 2", line, "keys 99"))
        pairs = " ".join(f"{tick}:{person}" for tick in range(6) for person in range(2))
        self.assert_place(1, session("table 0 hhhooo", "remind " + pairs))

    def test_operations_depend_on_those_before(self):
        self.assert_place(2, session("table 0 hho", "undo", "remind 11:0"))
        self.assert_place(2, session("table 0 hho", "remind 11:0", "table 0 ho"))
        self.assertEqual(len(parse_session(session("table 0 hho", "remind 11:0"))[1]), 2)

    def test_order_of_the_errors(self):
        self.assert_line(3, "tables hohoh\nkeys 99\ncareful\nremind 1\nx\nkeys 99")
        self.assert_part("tables", 0, "tables hohoh\nkeys 99\ncareful\nremind\nx\nkeys 99")
        self.assert_part("keys", 0, "tables h\nkeys 99\ncareful\nremind\nx\nkeys 99")
        self.assert_line(5, "tables h\nkeys 9\ncareful\nremind\nkeys 99\nx\ny")
        self.assert_place(0, "tables h\nkeys 9\ncareful\nremind\nkeys 99\nkeys 98")


if __name__ == "__main__":
    unittest.main()
