"""Point 1 of the document, for the functions of all modules."""

import unittest

from doorkeys.bench import Bench, format_session, parse_session
from doorkeys.comparison import first_difference, first_error
from doorkeys.days import at_home, events_between, find_cycle
from doorkeys.encoding import decode, encode
from doorkeys.errors import HouseError
from doorkeys.houses import House
from doorkeys.planning import fewest_careful, idle_reminders, least_keys, plan_reminders
from doorkeys.waits import (
    count_waits, first_wait, holders, hook, is_open, longest_wait, next_entry, open_ticks, wait_ticks, waiting,
)
from doorkeys.watching import Watcher
from tests.helpers import LARGEST, NOT_INTEGERS, parts_of, small_house
from tests.test_interface import CLASSES, SIGNATURES

HOUSES = [
    House(("hooh", "hhoo"), 1), House(("hooh", "hhoo"), 2, (), ((0, 0), (1, 0))), House(("o",), 0), LARGEST,
    House(("ooho", "ooh", "ohoo"), 1, (0, 2)), *[small_house(seed) for seed in range(8)],
]
OPERATIONS = [("keys", 3), ("careful", ()), ("undo",), ("remind", ((0, 0),)), ("redo",), ("table", 0, "h" * 24)]


def all_events(house, first, last):
    """Return the events of `events_between` as a list."""
    return list(events_between(house, first, last))


def plain_calls(house):
    """Yield the name of each function of the package, and arguments, some of them wrong."""
    yield "at_home", at_home, (house, 3)
    yield "at_home", at_home, (house, [3])
    yield "find_cycle", find_cycle, (house,)
    yield "events_between", all_events, (house, 2, 30)
    yield "events_between", all_events, (house, 2, [2])
    for function in (waiting, is_open, hook, holders):
        yield function.__name__, function, (house, 7)
        yield function.__name__, function, (house, [7])
    yield "wait_ticks", wait_ticks, (house, 0)
    yield "wait_ticks", wait_ticks, (house, [0])
    yield "open_ticks", open_ticks, (house,)
    yield "count_waits", count_waits, (house, 0, 3, 10 ** 18)
    yield "count_waits", count_waits, (house, 0, [3], [4])
    yield "first_wait", first_wait, (house,)
    yield "longest_wait", longest_wait, (house,)
    yield "next_entry", next_entry, (house, 0, 5)
    yield "next_entry", next_entry, (house, [0], 5)
    yield "least_keys", least_keys, (house,)
    yield "fewest_careful", fewest_careful, (house,)
    yield "plan_reminders", plan_reminders, (house, 1)
    yield "plan_reminders", plan_reminders, (house, [1])
    yield "idle_reminders", idle_reminders, (house,)
    yield "first_difference", first_difference, (house, House(house.tables, 1))
    yield "first_difference", first_difference, (house, [])
    yield "first_error", first_error, (house, [(), (), (), (0,), [0], ()])
    yield "first_error", first_error, (house, [[(), [0]]])
    yield "encode", encode, (house,)
    yield "decode", decode, (encode(house),)
    yield "decode", decode, ([*encode(house), [0]],)
    yield "format_session", format_session, (house, list(OPERATIONS))
    yield "format_session", format_session, (house, [("careful", [0, 1]), ("undo",)])
    yield "parse_session", parse_session, (format_session(house, OPERATIONS),)
    yield "parse_session", parse_session, ([house.text],)


def object_calls(house):
    """Yield the same for all classes, with calls that do not change their objects, or all of whose objects are new."""
    yield "__init__", House, parts_of(house)
    yield "__init__", House, (house.tables, 1, (), [(0, 0)])
    yield "persons", lambda one: one.persons, (house,)
    yield "period", lambda one: one.period, (house,)
    yield "text", lambda one: one.text, (house,)
    yield "parse", House.parse, (house.text,)
    yield "parse", House.parse, ([house.text],)
    yield "wants_home", House.wants_home, (house, 0, 3)
    yield "wants_home", House.wants_home, (house, 0, [3])
    yield "__init__", Watcher, (house, 2)
    yield "__init__", Watcher, (house, [2])
    yield "see", lambda one, *rest: Watcher(one, 2).see(*rest), (house, 0, ())
    yield "see", lambda one, *rest: Watcher(one, 2).see(*rest), (house, 0, [0])
    yield "see_from", lambda one, *rest: Watcher(one, 2).see_from(*rest), (house, 0, (), ())
    yield "see_from", lambda one, *rest: Watcher(one, 2).see_from(*rest), (house, 0, (), [0], ())
    watcher = Watcher(house, 2)
    watcher.see(0, ())
    yield "candidates", lambda one: one.candidates, (watcher,)
    yield "history", lambda one: one.history, (watcher,)
    yield "possible", Watcher.possible, (watcher, 3)
    yield "possible", Watcher.possible, (watcher, [3])
    yield "best_tick", Watcher.best_tick, (watcher, 30)
    yield "best_tick", Watcher.best_tick, (watcher, [30])
    yield from bench_calls(house)


def bench_calls(house):
    """Yield the same for the bench."""
    yield "__init__", Bench, (house,)
    yield "set_keys", lambda one, *rest: Bench(one).set_keys(*rest), (house, 3)
    yield "set_table", lambda one, *rest: Bench(one).set_table(*rest), (house, 0, "o" * 24)
    yield "set_careful", lambda one, *rest: Bench(one).set_careful(*rest), (house, 0)
    yield "set_reminders", lambda one, *rest: Bench(one).set_reminders(*rest), (house, (0, 0))
    yield "batch", lambda one, *rest: Bench(one).batch(*rest), (house, list(OPERATIONS))
    yield "replay", Bench.replay, (house, list(OPERATIONS))
    bench = Bench.replay(house, OPERATIONS)
    yield "text", lambda one: one.text, (bench,)
    yield "operations", lambda one: one.operations, (bench,)
    for name, rest in (
        ("set_keys", ([3],)), ("set_table", (0, ["h"])), ("set_table", ([0], "h")), ("set_careful", (0, [1])),
        ("set_reminders", ((0, 0), [1, 0])), ("save", (["a"],)), ("restore", (["a"],)), ("replay", (["undo"],)),
        ("batch", ([("undo",), ("undo",), ("keys", 11)],)), ("batch", ([["undo"]],)), ("redo", ()), ("save", ("a",)),
    ):
        yield name, getattr(Bench, name), (bench, *rest)
    yield "undo", Bench.undo, (Bench(house),)


def shown(value):
    """Return a value that tells all about a value of the program, as it is now."""
    if isinstance(value, (list, tuple)):
        return type(value), [shown(item) for item in value]
    if isinstance(value, House):
        return parts_of(value)
    if isinstance(value, Bench):
        return value.text, value.operations
    if isinstance(value, Watcher):
        return value.candidates, value.history
    # So that 1 is not taken for True.
    return type(value), value


def outcome(call, arguments):
    """Return what a call returns, and what all can see of it, or of its error."""
    try:
        result = call(*arguments)
    except HouseError as error:
        return None, (type(error), vars(error))
    return result, shown(result)


def spoil(value):
    """Change all lists in a value."""
    if isinstance(value, (list, tuple)):
        for item in value:
            spoil(item)
    if isinstance(value, list):
        value.append("spoiled")
        value.reverse()


class WholeTest(unittest.TestCase):
    def test_arguments_results_and_repetition(self):
        for house in HOUSES:
            for name, call, arguments in [*plain_calls(house), *object_calls(house)]:
                before = shown(arguments)
                result, first = outcome(call, arguments)
                self.assertEqual(shown(arguments), before, name)
                spoil(result)
                self.assertEqual(shown(arguments), before, name)
                self.assertEqual(outcome(call, arguments)[1], first, name)
                self.assertEqual(shown(arguments), before, name)

    def test_every_name_of_the_interface_is_called(self):
        house = HOUSES[0]
        functions = {name for listed in SIGNATURES.values() for name in listed}
        members = {name for listed in CLASSES.values() for name in listed}
        self.assertEqual({name for name, _, _ in plain_calls(house)}, functions)
        self.assertEqual({name for name, _, _ in object_calls(house)}, members)

    def test_true_and_false_are_no_integers(self):
        house = House(("h", "o"), 1)
        watcher = Watcher(house, 1)
        bench = Bench(house)
        for value in NOT_INTEGERS:
            calls = [
                (at_home, house, value), (all_events, house, value, 1), (all_events, house, 0, value),
                (waiting, house, value), (is_open, house, value), (hook, house, value), (holders, house, value),
                (wait_ticks, house, value), (count_waits, house, value, 0, 1), (count_waits, house, 0, value, 1),
                (count_waits, house, 0, 0, value), (next_entry, house, value, 0), (next_entry, house, 0, value),
                (plan_reminders, house, value), (house.wants_home, value, 0), (house.wants_home, 0, value),
                (House, ("h",), value), (House, ("h", "h"), 1, (value,)), (House, ("ho", "h"), 1, (), ((value, 1),)),
                (House, ("ho", "h"), 1, (), ((1, value),)), (Watcher, house, value), (watcher.see, value, ()),
                (watcher.see, 0, (value,)), (watcher.see_from, value), (watcher.possible, value),
                (watcher.best_tick, value), (decode, [75, value]), (bench.set_keys, value),
                (bench.set_table, value, "h"), (bench.set_careful, value), (bench.set_reminders, (0, value)),
            ]
            for call, *arguments in calls:
                with self.assertRaises(HouseError, msg=(call, arguments)):
                    call(*arguments)

    def test_arguments_are_checked_from_left_to_right(self):
        house = House(("h", "o"), 1)
        calls = [
            ("UnknownPerson", count_waits, house, 2, -1, -1), ("InvalidTick", count_waits, house, 0, -1, 5),
            ("UnknownPerson", next_entry, house, 2, -1), ("UnknownPerson", house.wants_home, 2, -1),
            ("InvalidTick", Watcher(house, 1).see, -1, (1, 0)), ("InvalidTick", Watcher(house, 1).see_from, -1, None),
            ("InvalidWaiting", Watcher(house, 1).see_from, 0, None, (0,)),
            ("UnknownPerson", Bench(house).set_table, 2, "x"),
        ]
        for expected, call, *arguments in calls:
            self.assertEqual(outcome(call, arguments)[1][0].__name__, expected, call)


if __name__ == "__main__":
    unittest.main()
