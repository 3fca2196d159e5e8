import random
import unittest

from doorkeys.bench import Bench
from doorkeys.errors import HouseError, InvalidHouse, InvalidName, InvalidOperation, UnknownName, UnknownPerson
from doorkeys.houses import House
from doorkeys.waits import first_wait
from tests.helpers import LARGEST, NOT_INTEGERS, NOT_LISTS, WRONG_PERSONS, house_parts, parts_of, raised, small_house

TABLES = ("hooh", "hhoo")
PLAIN = House(TABLES, 1)
TEXT = "tables hooh hhoo\nkeys 1\ncareful\nremind"
EVERY_KIND = [
    ("keys", 2), ("table", 0, "hho"), ("careful", (0, 1)), ("remind", ((1, 0), (11, 1))), ("undo",), ("redo",),
]
# No operations at all, whatever their arguments.
MALFORMED = (
    None, True, False, 0, 5, "", "undo", [], ["undo"], [("undo",)], (), (None,), (True,), (0,), ((),), (["undo"],),
    (("undo",),), ("",), ("Undo",), ("undone",), ("text",), ("save", "a"), ("restore", "a"), ("undo", 1), ("undo", ()),
    ("redo", None), ("keys",), ("keys", 1, 2), ("table",), ("table", 0), ("table", 0, "h", "h"), ("careful",),
    ("careful", 0, 1), ("careful", (0,), (1,)), ("remind",), ("remind", (0, 0), (1, 0)), ("reminders", ()), (5, "keys"),
)
# Operations that are well formed, but fail on a new bench of PLAIN, and how.
FAILING = (
    (("keys", -1), ("keys", 0)),
    (("keys", 10), ("keys", 0)),
    (("keys", None), ("keys", 0)),
    (("keys", True), ("keys", 0)),
    (("keys", (1,)), ("keys", 0)),
    (("table", 0, "hohoh"), ("tables", 0)),
    (("table", 1, ""), ("tables", 1)),
    (("table", 1, None), ("tables", 1)),
    (("table", 0, ["h"]), ("tables", 0)),
    (("table", 2, "h"), None),
    (("table", -1, "h"), None),
    (("table", "0", "h"), None),
    (("table", False, "h"), None),
    (("table", None, None), None),
    (("careful", 0), ("careful", 0)),
    (("careful", None), ("careful", 0)),
    (("careful", [0]), ("careful", 0)),
    (("careful", [0, 1]), ("careful", 0)),
    (("careful", (0, 2)), ("careful", 1)),
    (("careful", (1, 0)), ("careful", 1)),
    (("careful", (False,)), ("careful", 0)),
    (("remind", None), ("reminders", 0)),
    (("remind", "1:0"), ("reminders", 0)),
    (("remind", [(1, 0)]), ("reminders", 0)),
    (("remind", (1, 0)), ("reminders", 0)),
    (("remind", ((1, 0), [2, 0])), ("reminders", 1)),
    (("remind", ((1, 0), (4, 0))), ("reminders", 1)),
    (("remind", ((1, 0), (1, 0))), ("reminders", 1)),
)


def state(bench):
    """Return the complete state of a bench, as far as its methods show it."""
    shown = [(bench.text, bench.operations)]
    forward = 0
    while bench.redo():
        forward += 1
        shown.append((bench.text, bench.operations))
    for _ in range(forward):
        bench.undo()
    return shown, steps_back(bench)


def steps_back(bench):
    """Return what undoing everything shows, and redo it."""
    shown = []
    while bench.undo():
        shown.append((bench.text, bench.operations))
    for _ in shown:
        bench.redo()
    return shown


class BenchCase(unittest.TestCase):
    def setUp(self):
        self.bench = Bench(PLAIN)

    def assert_fault(self, expected, call, *arguments):
        """Check that a call raises InvalidHouse, or UnknownPerson if no part is expected, and changes nothing."""
        before = state(self.bench)
        error = raised(call, *arguments)
        if expected is None:
            self.assertIs(type(error), UnknownPerson, arguments)
        else:
            self.assertIs(type(error), InvalidHouse, arguments)
            self.assertEqual((error.part, error.index), expected, arguments)
        self.assertEqual(state(self.bench), before)

    def assert_place(self, place, call, *arguments):
        before = state(self.bench)
        error = raised(call, *arguments)
        self.assertIs(type(error), InvalidOperation, arguments)
        self.assertEqual(error.place, place, arguments)
        self.assertEqual(state(self.bench), before)


class OperationsTest(BenchCase):
    def test_examples(self):
        self.assertEqual(self.bench.set_keys(2), (3, (0,)))
        self.assertEqual(self.bench.text, "tables hooh hhoo\nkeys 2\ncareful\nremind")
        self.assertIsNone(Bench(PLAIN).set_table(0, "h"))
        careful = Bench(PLAIN)
        self.assertIsNone(careful.set_careful(0))
        self.assertEqual(careful.operations, ["careful"])
        self.assertIsNone(Bench(PLAIN).set_reminders((1, 0)))

    def test_new_bench(self):
        self.assertEqual((self.bench.text, self.bench.operations), (TEXT, []))
        self.assertEqual(Bench(LARGEST).text, LARGEST.text)

    def test_each_operation_replaces_one_part(self):
        self.bench.set_careful(0, 1)
        self.bench.set_reminders((1, 0), (3, 1))
        self.bench.set_keys(9)
        self.bench.set_table(1, "hhooho")
        self.assertEqual(self.bench.text, "tables hooh hhooho\nkeys 9\ncareful 0 1\nremind 1:0 3:1")
        self.bench.set_careful(1)
        self.bench.set_reminders((5, 0))
        self.bench.set_table(0, "ho")
        self.assertEqual(self.bench.text, "tables ho hhooho\nkeys 9\ncareful 1\nremind 5:0")
        self.assertEqual(self.bench.operations, ["careful", "remind", "keys", "table", "careful", "remind", "table"])

    def test_nothing_given(self):
        self.bench.set_careful(0)
        self.bench.set_reminders((1, 0))
        self.bench.set_careful()
        self.assertEqual(self.bench.text, "tables hooh hhoo\nkeys 1\ncareful\nremind 1:0")
        self.bench.set_reminders()
        self.assertEqual(self.bench.text, TEXT)

    def test_results_are_the_first_waits(self):
        for seed in range(60):
            bench = Bench(small_house(seed))
            house = House.parse(bench.text)
            self.assertEqual(bench.set_keys(seed % 10), first_wait(changed(house, keys=seed % 10)))
            house = House.parse(bench.text)
            self.assertEqual(bench.set_careful(0), first_wait(changed(house, careful=(0,))))
            house = House.parse(bench.text)
            self.assertEqual(bench.set_reminders((0, 0)), first_wait(changed(house, reminders=((0, 0),))))
            house = House.parse(bench.text)
            tables = ("o" * 23 + "h", *house.tables[1:])
            self.assertEqual(bench.set_table(0, "o" * 23 + "h"), first_wait(changed(house, tables=tables)))
            self.assertEqual(bench.text, changed(house, tables=tables).text)

    def test_invalid_keys(self):
        for keys in (-1, 10, 10 ** 20) + NOT_INTEGERS:
            self.assert_fault(("keys", 0), self.bench.set_keys, keys)

    def test_unknown_persons(self):
        for person in WRONG_PERSONS:
            self.assert_fault(None, self.bench.set_table, person, "h")
            self.assert_fault(None, self.bench.set_table, person, "x")
            self.assert_fault(None, self.bench.set_table, person, None)

    def test_invalid_timetables(self):
        for table in ("", "x", "hohoh", "h" * 25, None, True, 1, ("h",), ["h"], ()):
            for person in (0, 1):
                self.assert_fault(("tables", person), self.bench.set_table, person, table)

    def test_timetable_that_makes_the_period_too_short_for_reminders(self):
        self.bench.set_table(1, "hhhooo")
        self.bench.set_reminders((1, 0), (3, 1), (4, 0), (11, 1))
        self.assert_fault(("reminders", 3), self.bench.set_table, 0, "hho")
        self.assert_fault(("reminders", 2), self.bench.set_table, 1, "hhoo")
        self.assertIsNotNone(self.bench.set_table(1, "hhoohhoohhoo"))

    def test_invalid_careful_persons(self):
        for person in (-1, 2, 10 ** 20) + NOT_INTEGERS:
            self.assert_fault(("careful", 0), self.bench.set_careful, person)
            self.assert_fault(("careful", 1), self.bench.set_careful, 0, person)
        self.assert_fault(("careful", 1), self.bench.set_careful, 1, 0)
        self.assert_fault(("careful", 1), self.bench.set_careful, 1, 1)
        self.assert_fault(("careful", 2), self.bench.set_careful, 0, 1, 1)
        self.assert_fault(("careful", 0), self.bench.set_careful, (0, 1))

    def test_invalid_reminders(self):
        for reminder in (None, True, 1, "1:0", (), (1,), (1, 0, 0), (4, 0), (1, 2), (-1, 0), (True, 0), [1, 0], "10"):
            self.assert_fault(("reminders", 0), self.bench.set_reminders, reminder)
            self.assert_fault(("reminders", 1), self.bench.set_reminders, (0, 1), reminder)
        self.assert_fault(("reminders", 1), self.bench.set_reminders, (1, 0), (1, 0))
        self.assert_fault(("reminders", 2), self.bench.set_reminders, (1, 0), (1, 1), (0, 1), None)
        self.assert_fault(("reminders", 0), self.bench.set_reminders, ((1, 0), (1, 1)))

    def test_at_most_ten_reminders(self):
        many = [(tick, person) for tick in range(6) for person in range(2)]
        self.bench.set_table(0, "hooooo")
        self.assert_fault(("reminders", 10), self.bench.set_reminders, *many)
        self.bench.set_reminders(*many[:10])
        self.assertEqual(len(self.bench.text.split("\n")[3].split(" ")), 11)

    def test_list_of_operations_is_new(self):
        self.bench.set_keys(2)
        self.bench.operations.append("undo")
        read = self.bench.operations
        self.bench.set_keys(3)
        self.assertEqual((read, self.bench.operations), (["keys"], ["keys", "keys"]))

    def test_house_stays_as_it_is(self):
        house = House(TABLES, 1, (1,), ((2, 0),))
        bench = Bench(house)
        for operation in EVERY_KIND:
            bench.batch([operation])
        self.assertEqual(parts_of(house), (TABLES, 1, (1,), ((2, 0),)))

    def test_two_benches_of_one_house(self):
        other = Bench(PLAIN)
        self.bench.set_keys(2)
        self.bench.save("a")
        self.assertEqual((other.text, other.operations, other.undo()), (TEXT, [], False))
        self.assertIs(type(raised(other.restore, "a")), UnknownName)
        other.set_careful(1)
        self.assertEqual(self.bench.operations, ["keys"])


def changed(house, tables=None, keys=None, careful=None, reminders=None):
    """Return a house with another part."""
    given = (tables, keys, careful, reminders)
    return House(*[old if new is None else new for old, new in zip(parts_of(house), given)])


class UndoTest(BenchCase):
    def test_examples(self):
        self.bench.set_keys(2)
        self.assertEqual([self.bench.undo(), self.bench.operations, self.bench.undo()], [True, [], False])
        self.assertEqual([self.bench.redo(), self.bench.operations], [True, ["keys"]])

    def test_nothing_to_undo_or_redo(self):
        for _ in range(2):
            self.assertIs(self.bench.undo(), False)
            self.assertIs(self.bench.redo(), False)
            self.assertEqual((self.bench.text, self.bench.operations), (TEXT, []))
        self.bench.set_keys(2)
        self.assertIs(self.bench.redo(), False)
        self.assertEqual(self.bench.operations, ["keys"])

    def test_one_after_another(self):
        texts = [self.bench.text]
        for operation in EVERY_KIND[:4]:
            self.bench.batch([operation])
            texts.append(self.bench.text)
        self.assertEqual(len(set(texts)), 5)
        for text in reversed(texts[:4]):
            self.assertIs(self.bench.undo(), True)
            self.assertEqual(self.bench.text, text)
        self.assertIs(self.bench.undo(), False)
        for text in texts[1:]:
            self.assertIs(self.bench.redo(), True)
            self.assertEqual(self.bench.text, text)
        self.assertIs(self.bench.redo(), False)
        self.assertEqual(self.bench.operations, ["keys", "table", "careful", "remind"])

    def test_redo_repeats_the_operation_that_was_undone_last(self):
        self.bench.set_keys(2)
        self.bench.set_careful(1)
        self.bench.undo()
        self.bench.undo()
        self.bench.redo()
        self.assertEqual(self.bench.operations, ["keys"])
        self.bench.redo()
        self.assertEqual(self.bench.operations, ["keys", "careful"])

    def test_no_redo_after_another_operation(self):
        self.bench.set_keys(2)
        self.bench.set_careful(1)
        self.bench.undo()
        self.bench.set_keys(3)
        self.assertIs(self.bench.redo(), False)
        self.assertEqual(self.bench.operations, ["keys", "keys"])
        self.bench.undo()
        self.assertEqual(self.bench.text, "tables hooh hhoo\nkeys 2\ncareful\nremind")

    def test_redo_after_an_operation_that_failed(self):
        self.bench.set_keys(2)
        self.bench.undo()
        raised(self.bench.set_keys, 10)
        raised(self.bench.set_table, 9, "h")
        raised(self.bench.set_careful, 9)
        raised(self.bench.set_reminders, 9)
        raised(self.bench.batch, [("keys", 4), ("keys", 10)])
        self.assertIs(self.bench.redo(), True)
        self.assertEqual(self.bench.operations, ["keys"])

    def test_an_operation_that_changes_nothing_is_one(self):
        self.bench.set_keys(1)
        self.bench.undo()
        self.bench.set_careful()
        self.assertIs(self.bench.redo(), False)
        self.assertEqual((self.bench.text, self.bench.operations), (TEXT, ["careful"]))
        self.assertIs(self.bench.undo(), True)

    def test_undo_after_a_shorter_period(self):
        self.bench.set_reminders((3, 0))
        self.bench.set_reminders()
        self.bench.set_table(0, "h")
        self.bench.set_table(1, "o")
        for _ in range(3):
            self.bench.undo()
        self.assertEqual(self.bench.text, "tables hooh hhoo\nkeys 1\ncareful\nremind 3:0")


class SnapshotTest(BenchCase):
    def test_example(self):
        self.assertIsNone(self.bench.save("x"))
        self.bench.set_keys(2)
        self.assertIsNone(self.bench.restore("x"))
        self.assertEqual(self.bench.operations, [])

    def test_names(self):
        for name in ("a", "z", "abcdefgh", "azazazaz", "undo"):
            self.assertIsNone(self.bench.save(name))
            self.assertIsNone(self.bench.restore(name))
        wrong = (
            "", "abcdefghi", "A", "aB", "a1", "0", "a b", " a", "a ", "a\n", "_", "a-b", "\u00e4", "a" * 100, None,
            True, False, 0, 5, (), ("a",), [], ["a"],
        )
        for name in wrong:
            self.assertIs(type(raised(self.bench.save, name)), InvalidName, name)
            self.assertIs(type(raised(self.bench.restore, name)), UnknownName, name)

    def test_unknown_names(self):
        self.bench.set_keys(2)
        self.bench.save("a")
        before = state(self.bench)
        for name in ("b", "aa", "", "A"):
            self.assertIs(type(raised(self.bench.restore, name)), UnknownName)
        self.assertEqual(state(self.bench), before)

    def test_between_undo_and_redo(self):
        self.bench.set_keys(2)
        self.bench.set_careful(1)
        self.bench.undo()
        self.bench.save("half")
        before = state(self.bench)
        self.bench.redo()
        self.bench.save("whole")
        self.bench.undo()
        self.bench.undo()
        self.bench.set_table(0, "h")
        self.bench.restore("half")
        self.assertEqual(state(self.bench), before)
        self.assertIs(self.bench.redo(), True)
        self.assertEqual(self.bench.operations, ["keys", "careful"])
        self.assertIs(self.bench.redo(), False)
        self.bench.restore("half")
        self.assertIs(self.bench.undo(), True)
        self.assertEqual(self.bench.text, TEXT)
        self.bench.restore("whole")
        self.assertEqual((self.bench.operations, self.bench.redo()), (["keys", "careful"], False))

    def test_same_name_twice(self):
        self.bench.save("a")
        self.bench.set_keys(2)
        self.bench.save("a")
        self.bench.undo()
        self.bench.restore("a")
        self.assertEqual(self.bench.operations, ["keys"])

    def test_a_snapshot_can_be_restored_again(self):
        self.bench.set_keys(2)
        self.bench.save("a")
        for keys in (3, 4):
            self.bench.set_keys(keys)
            self.bench.undo()
            self.bench.undo()
            self.bench.restore("a")
            self.assertEqual((self.bench.operations, self.bench.redo()), (["keys"], False))

    def test_snapshots_are_not_part_of_the_state(self):
        self.bench.save("a")
        self.bench.set_keys(2)
        self.bench.save("b")
        self.bench.restore("a")
        self.bench.restore("b")
        self.assertEqual(self.bench.operations, ["keys"])
        self.bench.undo()
        self.bench.save("a")
        self.bench.restore("b")
        self.bench.restore("a")
        self.assertEqual((self.bench.operations, self.bench.redo()), ([], True))

    def test_saving_is_no_operation(self):
        self.bench.set_keys(2)
        self.bench.undo()
        self.bench.save("a")
        self.assertIs(self.bench.redo(), True)
        self.bench.undo()
        self.bench.restore("a")
        self.assertIs(self.bench.redo(), True)
        self.assertEqual(self.bench.operations, ["keys"])


class BatchTest(BenchCase):
    def test_examples(self):
        self.assertEqual(self.bench.batch([("keys", 2), ("undo",)]), [(3, (0,)), True])
        self.assert_place(0, self.bench.batch, [("keys",)])

    def test_no_operations(self):
        self.assertEqual(self.bench.batch([]), [])
        self.assertEqual((self.bench.text, self.bench.operations), (TEXT, []))

    def test_every_kind(self):
        single = Bench(PLAIN)
        results = [
            single.set_keys(2), single.set_table(0, "hho"), single.set_careful(0, 1),
            single.set_reminders((1, 0), (11, 1)), single.undo(), single.redo(),
        ]
        self.assertEqual(self.bench.batch(EVERY_KIND), results)
        self.assertEqual(state(self.bench), state(single))
        self.assertEqual(self.bench.operations, ["keys", "table", "careful", "remind"])

    def test_undo_and_redo_inside(self):
        self.bench.set_careful(1)
        results = self.bench.batch([("undo",), ("undo",), ("redo",), ("redo",), ("keys", 0), ("undo",), ("undo",)])
        self.assertEqual(results, [True, False, True, False, first_wait(House(TABLES, 0, (1,))), True, True])
        self.assertEqual(self.bench.operations, [])
        self.bench.redo()
        self.bench.redo()
        self.assertEqual(self.bench.operations, ["careful", "keys"])

    def test_operations_of_a_batch_are_undone_one_by_one(self):
        self.bench.batch([("keys", 2), ("careful", (0,))])
        self.bench.undo()
        self.assertEqual(self.bench.operations, ["keys"])

    def test_empty_tuples(self):
        self.bench.batch([("careful", (0,)), ("remind", ((1, 0),)), ("careful", ()), ("remind", ())])
        self.assertEqual(self.bench.text, TEXT)

    def test_values_that_are_no_lists(self):
        self.bench.set_keys(2)
        for operations in NOT_LISTS:
            self.assert_place(0, self.bench.batch, operations)

    def test_malformed_entries(self):
        self.bench.set_keys(2)
        for entry in MALFORMED:
            self.assert_place(0, self.bench.batch, [entry])
            self.assert_place(2, self.bench.batch, [("undo",), ("keys", 3), entry, None])

    def test_malformed_entries_are_found_before_anything_is_executed(self):
        for operation, _ in FAILING:
            self.assert_place(1, self.bench.batch, [operation, ("undo", 1)])

    def test_arguments_are_looked_at_when_an_operation_is_executed(self):
        for operation, expected in FAILING:
            self.assert_fault(expected, self.bench.batch, [operation])
            self.assert_fault(expected, self.bench.batch, [("redo",), ("keys", 1), operation, ("keys", None)])

    def test_the_first_operation_that_fails_counts(self):
        self.assert_fault(("careful", 0), self.bench.batch, [("keys", 9), ("careful", (7,)), ("keys", 10)])
        self.assert_fault(None, self.bench.batch, [("table", 7, "h"), ("keys", 10)])

    def test_an_operation_fails_on_the_house_before_it(self):
        longer, shorter, late = ("table", 0, "hho"), ("table", 0, "ho"), ("remind", ((11, 0),))
        self.assert_fault(("reminders", 0), self.bench.batch, [longer, late, ("undo",), shorter, late])
        self.assert_fault(("reminders", 0), self.bench.batch, [longer, late, shorter])

    def test_a_batch_that_fails_leaves_the_complete_state(self):
        self.bench.set_keys(2)
        self.bench.set_careful(0)
        self.bench.set_table(1, "h")
        self.bench.undo()
        self.bench.undo()
        self.bench.save("a")
        before = state(self.bench)
        self.assertEqual(len(before[0]), 3)
        fails = ("keys", 10)
        for start in ([], [("undo",)], [("redo",)], [("redo",), ("redo",)], [("keys", 5)], [("undo",), ("keys", 5)]):
            self.assert_fault(("keys", 0), self.bench.batch, [*start, fails])
            self.assertEqual(state(self.bench), before)
        self.bench.set_keys(7)
        self.bench.restore("a")
        self.assertEqual(state(self.bench), before)

    def test_lists_stay_as_they_are(self):
        operations = list(EVERY_KIND)
        results = self.bench.batch(operations)
        results.append(7)
        raised(self.bench.batch, operations + [("keys", 10)])
        Bench.replay(PLAIN, operations)
        self.assertEqual(operations, EVERY_KIND)
        operations.clear()
        self.assertEqual(len(self.bench.operations), 4)


class ReplayTest(BenchCase):
    def test_example(self):
        bench = Bench.replay(PLAIN, [("careful", (0, 1))])
        self.assertIs(type(bench), Bench)
        self.assertEqual(bench.text, "tables hooh hhoo\nkeys 1\ncareful 0 1\nremind")

    def test_same_as_a_batch_on_a_new_bench(self):
        for operations in ([], EVERY_KIND, [("undo",), ("redo",)], EVERY_KIND + [("undo",), ("keys", 9), ("undo",)]):
            self.bench = Bench(PLAIN)
            self.bench.batch(operations)
            self.assertEqual(state(Bench.replay(PLAIN, operations)), state(self.bench))

    def test_values_that_are_no_lists(self):
        for operations in NOT_LISTS:
            self.assert_place(0, Bench.replay, PLAIN, operations)

    def test_malformed_entries(self):
        for entry in MALFORMED:
            self.assert_place(0, Bench.replay, PLAIN, [entry])
            self.assert_place(2, Bench.replay, PLAIN, [("undo",), ("keys", 3), entry])

    def test_failing_entries(self):
        for operation, _ in FAILING:
            self.assert_place(0, Bench.replay, PLAIN, [operation])
            self.assert_place(2, Bench.replay, PLAIN, [("undo",), ("keys", 3), operation])

    def test_the_first_entry_that_is_malformed_or_fails(self):
        self.assert_place(1, Bench.replay, PLAIN, [("undo",), ("keys", 10), ("keys",)])
        self.assert_place(1, Bench.replay, PLAIN, [("undo",), ("keys",), ("keys", 10)])
        self.assert_place(0, Bench.replay, PLAIN, [("careful", 5), None])

    def test_nothing_to_undo_is_no_failure(self):
        self.assertEqual(Bench.replay(PLAIN, [("undo",), ("redo",), ("undo",)]).operations, [])

    def test_house_stays_as_it_is(self):
        Bench.replay(PLAIN, EVERY_KIND).set_keys(0)
        self.assertEqual(parts_of(PLAIN), (TABLES, 1, (), ()))


class Retold:
    """Point 12 once more: the operations in effect are executed again from the beginning."""

    def __init__(self, house):
        self.parts = parts_of(house)
        self.done = []
        self.undone = []
        self.saved = {}

    def house(self):
        tables, keys, careful, reminders = self.parts
        for word, *rest in self.done:
            if word == "keys":
                keys = rest[0]
            elif word == "careful":
                careful = rest[0]
            elif word == "remind":
                reminders = rest[0]
            else:
                tables = tuple(rest[1] if person == rest[0] else table for person, table in enumerate(tables))
        return House(tables, keys, careful, reminders)

    def execute(self, operation):
        before = list(self.done), list(self.undone)
        if operation[0] == "undo":
            if not self.done:
                return False
            self.undone.append(self.done.pop())
            return True
        if operation[0] == "redo":
            if not self.undone:
                return False
            self.done.append(self.undone.pop())
            return True
        self.done.append(operation)
        self.undone.clear()
        try:
            if operation[0] == "table" and operation[1] >= self.house().persons:
                raise UnknownPerson("none")
            return first_wait(self.house())
        except HouseError:
            self.done, self.undone = before
            raise

    def batch(self, operations):
        before = list(self.done), list(self.undone)
        try:
            return [self.execute(operation) for operation in operations]
        except HouseError:
            self.done, self.undone = before
            raise

    def save(self, name):
        self.saved[name] = list(self.done), list(self.undone)

    def restore(self, name):
        if name not in self.saved:
            raise UnknownName("none")
        self.done, self.undone = [list(part) for part in self.saved[name]]


def some_operation(chance):
    """Return an operation that may fail."""
    word = chance.choice(("keys", "table", "careful", "remind", "undo", "undo", "redo", "redo"))
    if word == "keys":
        return (word, chance.randint(0, 10))
    if word == "table":
        length = chance.choice((1, 2, 3, 4, 5, 6))
        return (word, chance.randint(0, 3), "".join(chance.choice("ho") for _ in range(length)))
    if word == "careful":
        return (word, tuple(person for person in range(4) if chance.random() < 0.2))
    if word == "remind":
        return (word, tuple((tick, 0) for tick in range(5) if chance.random() < 0.2))
    return (word,)


def outcome(call, *arguments):
    """Return the result of a call, or its error's name and attributes."""
    try:
        return call(*arguments)
    except HouseError as error:
        return type(error).__name__, vars(error)


class ManyOperationsTest(unittest.TestCase):
    def test_against_plain_repetition(self):
        for seed in range(60):
            chance = random.Random(seed)
            house = House(*house_parts(seed))
            bench, retold = Bench(house), Retold(house)
            for _ in range(60):
                kind = chance.randint(0, 9)
                if kind == 0:
                    calls, arguments = (bench.save, retold.save), chance.choice("abc")
                elif kind == 1:
                    calls, arguments = (bench.restore, retold.restore), chance.choice("abc")
                else:
                    operations = [some_operation(chance) for _ in range(1 if kind < 8 else chance.randint(0, 5))]
                    calls, arguments = (bench.batch, retold.batch), operations
                self.assertEqual(outcome(calls[0], arguments), outcome(calls[1], arguments))
                self.assertEqual(bench.text, retold.house().text)
                self.assertEqual(bench.operations, [operation[0] for operation in retold.done])


if __name__ == "__main__":
    unittest.main()
