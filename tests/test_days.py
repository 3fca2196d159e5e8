import types
import unittest

from doorkeys.days import at_home, events_between, find_cycle
from doorkeys.errors import InvalidTick
from doorkeys.houses import House
from tests.helpers import LAST, WRONG_TICKS, house_parts, model_of, raised, retell


def events(house, first, last):
    return list(events_between(house, first, last))


class TicksTest(unittest.TestCase):
    """What happens in each tick, point by point."""

    def test_beginning(self):
        house = House(("ho", "oh"), 1)
        self.assertEqual(events(house, 0, 0), [(0, "leave", 1)])

    def test_everybody_at_home_before_tick_0_and_nobody_enters(self):
        self.assertEqual(events(House(("h", "h"), 0), 0, 9), [])

    def test_all_leave_in_tick_0(self):
        house = House(("o", "o", "o"), 5)
        self.assertEqual(
            events(house, 0, 9), [(0, "leave", 0), (0, "leave", 1), (0, "leave", 2), (0, "take", 2)]
        )

    def test_house_stays_open_without_a_key(self):
        house = House(("ohh", "ooh"), 0)
        self.assertEqual(
            events(house, 0, 3),
            [
                (0, "leave", 0), (0, "leave", 1), (0, "open", None), (1, "enter", 0), (2, "enter", 1),
                (3, "leave", 0), (3, "leave", 1), (3, "open", None),
            ],
        )

    def test_somebody_at_home_lets_all_in(self):
        house = House(("hhhh", "hooh", "hohh"), 0)
        self.assertEqual(
            events(house, 1, 3), [(1, "leave", 1), (1, "leave", 2), (2, "enter", 2), (3, "enter", 1)]
        )

    def test_one_key_lets_all_comers_in(self):
        house = House(("ho", "ho", "ho"), 1, (1,))
        self.assertEqual(
            events(house, 1, 2),
            [
                (1, "leave", 0), (1, "leave", 1), (1, "take", 1), (1, "leave", 2),
                (2, "enter", 0), (2, "enter", 1), (2, "enter", 2),
            ],
        )

    def test_waiting_until_a_key_comes(self):
        house = House(("hohhhh", "hoooho"), 1)
        self.assertEqual(
            events(house, 1, 5),
            [
                (1, "leave", 0), (1, "leave", 1), (1, "take", 1), (2, "wait", 0), (3, "wait", 0),
                (4, "enter", 0), (4, "enter", 1), (5, "leave", 1),
            ],
        )

    def test_who_waits_and_gives_up_is_simply_out(self):
        house = House(("hohoooho", "hooooooo"), 1)
        self.assertEqual(
            events(house, 1, 6), [(1, "leave", 0), (1, "leave", 1), (1, "take", 1), (2, "wait", 0), (6, "wait", 0)]
        )
        self.assertEqual([at_home(house, tick) for tick in range(8)], [[0, 1]] + [[]] * 7)

    def test_keys_are_hung_up_before_others_take_them(self):
        house = House(("hooh", "hhho"), 1, (0, 1))
        self.assertEqual(
            events(house, 1, 3), [(1, "leave", 0), (1, "take", 0), (3, "enter", 0), (3, "leave", 1), (3, "take", 1)]
        )

    def test_careful_person_finds_no_key(self):
        house = House(("hho", "hoo", "hhh"), 1, (0, 1))
        self.assertEqual(events(house, 1, 2), [(1, "leave", 1), (1, "take", 1), (2, "leave", 0)])

    def test_reminder_holds_for_one_tick_of_the_period_and_one_person(self):
        house = House(("hoho", "hoho", "h"), 2, (), ((1, 1),))
        found = [event for event in events(house, 0, 7) if event[1] == "take"]
        self.assertEqual(found, [(1, "take", 1), (5, "take", 1)])

    def test_reminder_in_a_later_period(self):
        house = House(("ho", "hoo"), 2, (), ((5, 0),))
        taken = [event for event in events(house, 0, 17) if event[1] == "take" and event[2] == 0]
        self.assertEqual(taken, [(5, "take", 0), (11, "take", 0), (17, "take", 0)])

    def test_careful_and_reminded_takes_one_key_only(self):
        house = House(("ho", "h"), 9, (0,), ((1, 0),))
        self.assertEqual(events(house, 1, 1), [(1, "leave", 0), (1, "take", 0)])

    def test_last_one_takes_a_key_only_if_nobody_else_did(self):
        house = House(("ho", "ho"), 2, (0,))
        self.assertEqual(events(house, 1, 1), [(1, "leave", 0), (1, "take", 0), (1, "leave", 1)])

    def test_key_of_an_earlier_leaver_does_not_lock(self):
        house = House(("hooo", "hhoo"), 1, (0,))
        self.assertEqual(
            events(house, 1, 2), [(1, "leave", 0), (1, "take", 0), (2, "leave", 1), (2, "open", None)]
        )

    def test_open_house_is_closed_by_who_enters(self):
        house = House(("hooo", "hhoo"), 1, (0,))
        self.assertEqual(
            events(house, 1, 6),
            [
                (1, "leave", 0), (1, "take", 0), (2, "leave", 1), (2, "open", None), (4, "enter", 0),
                (4, "enter", 1), (5, "leave", 0), (5, "take", 0), (6, "leave", 1), (6, "open", None),
            ],
        )


class AtHomeTest(unittest.TestCase):
    def test_example(self):
        house = House(("hooh", "hhoo"), 1)
        self.assertEqual(at_home(house, 1), [1])
        self.assertEqual([at_home(house, tick) for tick in range(5)], [[0, 1], [1], [], [], [0, 1]])

    def test_lists_are_new(self):
        house = House(("hooh", "hhoo"), 1)
        at_home(house, 1).append(7)
        self.assertEqual(at_home(house, 1), [1])

    def test_last_tick(self):
        house = House(("hooh", "hhoo"), 1)
        self.assertEqual(at_home(house, LAST), [0, 1])
        self.assertEqual(at_home(house, LAST - 1), [])
        self.assertEqual(at_home(house, LAST - 3), [1])

    def test_invalid_ticks(self):
        house = House(("hooh", "hhoo"), 1)
        for tick in WRONG_TICKS:
            self.assertIs(type(raised(at_home, house, tick)), InvalidTick, tick)


class EventsTest(unittest.TestCase):
    def test_example(self):
        house = House(("hooh", "hhoo"), 1)
        self.assertEqual(
            events(house, 1, 3), [(1, "leave", 0), (2, "leave", 1), (2, "take", 1), (3, "wait", 0)]
        )

    def test_is_a_generator(self):
        house = House(("hooh", "hhoo"), 1)
        self.assertIsInstance(events_between(house, 0, 3), types.GeneratorType)

    def test_no_events_if_the_last_tick_is_before_the_first(self):
        house = House(("ho",), 1)
        self.assertEqual(events(house, 1, 0), [])
        self.assertEqual(events(house, LAST, 0), [])
        self.assertEqual(events(house, LAST, LAST - 1), [])

    def test_one_tick(self):
        house = House(("ho",), 1)
        self.assertEqual(events(house, 0, 0), [])
        self.assertEqual(events(house, 1, 1), [(1, "leave", 0), (1, "take", 0)])

    def test_last_ticks(self):
        house = House(("hooh", "hhoo"), 1)
        self.assertEqual(
            events(house, LAST - 1, LAST), [(LAST - 1, "wait", 0), (LAST, "enter", 0), (LAST, "enter", 1)]
        )

    def test_first_events_of_many_ticks(self):
        house = House(("ho",), 1)
        generator = events_between(house, 0, LAST)
        self.assertEqual([next(generator), next(generator)], [(1, "leave", 0), (1, "take", 0)])

    def test_many_ticks_without_events(self):
        self.assertEqual(events(House(("h", "hh"), 1), 0, LAST), [])
        self.assertEqual(events(House(("o", "hhh"), 1), 0, LAST), [(0, "leave", 0)])
        self.assertEqual(events(House(("o", "hhh"), 1), 1, LAST), [])

    def test_quiet_ticks_within_a_period_do_not_end_it(self):
        house = House(("h" * 23 + "o",), 1)
        self.assertEqual(
            events(house, 0, 47),
            [(23, "leave", 0), (23, "take", 0), (24, "enter", 0), (47, "leave", 0), (47, "take", 0)],
        )
        self.assertEqual(len(events(house, 24, 240)), 28)

    def test_one_event_in_each_period(self):
        house = House(("o" * 23 + "h", "o"), 1, (1,))
        self.assertEqual(
            events(house, 1, 100), [(23, "wait", 0), (47, "wait", 0), (71, "wait", 0), (95, "wait", 0)]
        )

    def test_parts_join(self):
        for seed in range(30):
            house = House(*house_parts(seed))
            whole = events(house, 0, 60)
            for cut in (0, 1, 7, 24, 25, 60):
                self.assertEqual(events(house, 0, cut) + events(house, cut + 1, 60), whole)

    def test_errors_are_raised_when_the_first_event_is_asked_for(self):
        house = House(("hooh", "hhoo"), 1)
        for tick in WRONG_TICKS:
            for pair in ((tick, 5), (5, tick), (tick, tick)):
                generator = events_between(house, *pair)
                with self.assertRaises(InvalidTick):
                    next(generator)


class CycleTest(unittest.TestCase):
    def test_example(self):
        self.assertEqual(find_cycle(House(("hooh", "hhoo"), 1)), (0, 4))

    def test_constant_houses(self):
        self.assertEqual(find_cycle(House(("h",), 0)), (0, 1))
        self.assertEqual(find_cycle(House(("o",), 0)), (0, 1))
        self.assertEqual(find_cycle(House(("hhhhhh", "oo"), 3)), (0, 6))

    def test_cycle_longer_than_the_period(self):
        self.assertEqual(find_cycle(House(("hoo", "oho", "ooh"), 1, (0, 1, 2))), (0, 6))

    def test_cycle_that_begins_later(self):
        self.assertEqual(find_cycle(House(("hhho", "hooo", "ooho"), 1, (0, 1, 2))), (4, 4))
        self.assertEqual(find_cycle(House(("ooho", "ooh", "ohoo"), 1, (0, 2))), (14, 12))

    def test_cycles_of_many_houses(self):
        for seed in range(400):
            house = House(*house_parts(seed))
            self.assertEqual(find_cycle(house), retell(house)[1:], seed)

    def test_repeated_calls(self):
        house = House(("hhoo", "hhho"), 1, (0,))
        self.assertEqual(find_cycle(house), find_cycle(house))


class ManyHousesTest(unittest.TestCase):
    """The program against the words of point 3, written a second time."""

    def test_events_and_persons_at_home(self):
        for seed in range(300):
            house = House(*house_parts(seed))
            model = model_of(house)
            expected = []
            for tick in range(60):
                expected.extend(model.step())
                if tick % 7 == 0:
                    self.assertEqual(at_home(house, tick), model.those("home"), seed)
            self.assertEqual(events(house, 0, 59), expected, seed)

    def test_late_ticks(self):
        parts = [house_parts(seed) for seed in range(100)]
        parts.append((("hoo", "oho", "ooh"), 1, (0, 1, 2), ()))
        parts.append((("ooho", "ooh", "ohoo"), 1, (0, 2), ()))
        for arguments in parts:
            house = House(*arguments)
            begin, length = retell(house)[1:]
            for late in range(LAST - 30, LAST + 1, 5):
                early = begin + (late - begin) % length
                self.assertEqual(at_home(house, late), at_home(house, early))
                # One cycle later, so that the scene before it is one of the cycle, too.
                early += length
                moved = [(late, word, person) for _, word, person in events(house, early, early)]
                self.assertEqual(events(house, late, late), moved)

    def test_houses_stay_as_they_are(self):
        for seed in range(20):
            house = House(*house_parts(seed))
            at_home(house, 5)
            find_cycle(house)
            events(house, 3, 30)
            raised(at_home, house, -1)
            self.assertEqual((house.tables, house.key_count, house.careful, house.reminders), house_parts(seed))


if __name__ == "__main__":
    unittest.main()
