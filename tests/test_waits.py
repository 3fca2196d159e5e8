import unittest

from doorkeys.errors import InvalidTick, UnknownPerson
from doorkeys.houses import House
from doorkeys.waits import (
    count_waits, first_wait, holders, hook, is_open, longest_of, longest_wait, next_entry, open_ticks, wait_ticks,
    waiting,
)
from tests.helpers import (
    LAST, WRONG_PERSONS, WRONG_TICKS, house_parts, raised, retell, rows_of, small_house, unsteady,
)

PLAIN = House(("hooh", "hhoo"), 1)
# Person 1 takes the only key for ever, person 0 waits in every other tick.
SHUT_OUT = House(("oh", "o"), 1, (1,))


def many_houses():
    """Yield houses of all kinds."""
    for seed in range(50):
        yield House(*house_parts(seed))
    for seed in range(120):
        yield small_house(seed)


class AfterTickTest(unittest.TestCase):
    """`waiting`, `holders`, `hook` and `is_open`."""

    def test_examples(self):
        self.assertEqual(waiting(PLAIN, 3), (0,))
        self.assertIs(is_open(House(("hooh", "hhoo"), 0), 2), True)
        self.assertEqual([hook(PLAIN, 1), hook(PLAIN, 2)], [1, 0])
        self.assertEqual(holders(PLAIN, 2), (1,))

    def test_ordinary_ticks(self):
        self.assertEqual([waiting(PLAIN, tick) for tick in range(6)], [(), (), (), (0,), (), ()])
        self.assertEqual([holders(PLAIN, tick) for tick in range(6)], [(), (), (1,), (1,), (), ()])
        self.assertEqual([hook(PLAIN, tick) for tick in range(6)], [1, 1, 0, 0, 1, 1])
        self.assertEqual([is_open(PLAIN, tick) for tick in range(6)], [False] * 6)
        without_keys = House(("hooh", "hhoo"), 0)
        self.assertEqual([is_open(without_keys, tick) for tick in range(5)], [False, False, True, False, False])
        self.assertEqual([hook(without_keys, tick) for tick in range(5)], [0] * 5)

    def test_several_persons_in_ascending_order(self):
        house = House(("oh", "oh", "o", "o"), 5, (2, 3))
        self.assertEqual(waiting(house, 1), (0, 1))
        self.assertEqual(holders(house, 1), (2, 3))
        self.assertEqual(hook(house, 1), 3)

    def test_last_ticks(self):
        self.assertEqual([waiting(PLAIN, LAST - back) for back in (3, 2, 1, 0)], [(), (), (0,), ()])
        self.assertEqual([holders(PLAIN, LAST - back) for back in (3, 2, 1, 0)], [(), (1,), (1,), ()])
        self.assertEqual([hook(PLAIN, LAST - back) for back in (3, 2, 1, 0)], [1, 0, 0, 1])
        self.assertIs(is_open(House(("hooh", "hhoo"), 0), LAST - 2), True)
        self.assertIs(is_open(House(("hooh", "hhoo"), 0), LAST), False)

    def test_invalid_ticks(self):
        for tick in WRONG_TICKS:
            for call in (waiting, holders, hook, is_open):
                self.assertIs(type(raised(call, PLAIN, tick)), InvalidTick, (call, tick))

    def test_many_houses(self):
        for house in many_houses():
            scenes, begin, length = retell(house)
            for tick in range(0, begin + length, 3):
                _, waiters, carries, unlocked = scenes[tick]
                carriers = tuple(person for person, carrying in enumerate(carries) if carrying)
                self.assertEqual(waiting(house, tick), waiters)
                self.assertEqual(holders(house, tick), carriers)
                self.assertEqual(hook(house, tick), house.key_count - len(carriers))
                self.assertIs(is_open(house, tick), unlocked)
                late = tick + length * ((LAST - tick) // length)
                if tick >= begin:
                    self.assertEqual(waiting(house, late), waiters)
                    self.assertEqual(holders(house, late), carriers)


class TicksTest(unittest.TestCase):
    """`wait_ticks`, `open_ticks` and `count_waits`."""

    def test_examples(self):
        self.assertEqual(wait_ticks(PLAIN, 0), ([], [3]))
        self.assertEqual(open_ticks(PLAIN), ([], []))
        self.assertEqual(count_waits(PLAIN, 0, 0, 11), 3)

    def test_before_the_cycle_and_in_it(self):
        early = House(("ooho", "oh"), 1, (0,))
        self.assertEqual([wait_ticks(early, person) for person in (0, 1)], [([], []), ([1], [])])
        both = House(("ohh", "ooho"), 2, (1,))
        self.assertEqual(wait_ticks(both, 0), ([1], [4, 5]))
        self.assertEqual(open_ticks(House(("ho", "ooho"), 1, (0, 1))), ([1], []))
        self.assertEqual(open_ticks(House(("oho", "ho"), 1, (0, 1))), ([], [3]))

    def test_lists_are_new(self):
        wait_ticks(PLAIN, 0)[1].append(9)
        open_ticks(PLAIN)[0].append(9)
        self.assertEqual(wait_ticks(PLAIN, 0), ([], [3]))
        self.assertEqual(open_ticks(PLAIN), ([], []))

    def test_counting_from_tick_to_tick(self):
        self.assertEqual(count_waits(PLAIN, 0, 3, 3), 1)
        self.assertEqual(count_waits(PLAIN, 0, 4, 6), 0)
        self.assertEqual(count_waits(PLAIN, 0, 3, 7), 2)
        self.assertEqual(count_waits(PLAIN, 1, 0, LAST), 0)

    def test_last_tick_before_the_first(self):
        self.assertEqual(count_waits(PLAIN, 0, 4, 3), 0)
        self.assertEqual(count_waits(PLAIN, 0, 8, 3), 0)
        self.assertEqual(count_waits(PLAIN, 0, LAST, 0), 0)

    def test_counting_up_to_the_last_tick(self):
        self.assertEqual(count_waits(PLAIN, 0, 0, LAST), LAST // 4)
        self.assertEqual(count_waits(PLAIN, 0, LAST - 1, LAST), 1)
        self.assertEqual(count_waits(PLAIN, 0, LAST, LAST), 0)
        self.assertEqual(count_waits(SHUT_OUT, 0, 0, LAST), LAST // 2)
        self.assertEqual(count_waits(House(("ooho", "oh"), 1, (0,)), 1, 1, LAST), 1)
        self.assertEqual(count_waits(House(("ooho", "oh"), 1, (0,)), 1, 2, LAST), 0)

    def test_invalid_persons_and_ticks(self):
        for person in WRONG_PERSONS:
            self.assertIs(type(raised(wait_ticks, PLAIN, person)), UnknownPerson, person)
            self.assertIs(type(raised(count_waits, PLAIN, person, -1, -1)), UnknownPerson, person)
        for tick in WRONG_TICKS:
            self.assertIs(type(raised(count_waits, PLAIN, 1, tick, 5)), InvalidTick, tick)
            self.assertIs(type(raised(count_waits, PLAIN, 1, 5, tick)), InvalidTick, tick)

    def test_many_houses(self):
        for house in many_houses():
            scenes, begin, length = retell(house)
            marks = [unlocked for _, _, _, unlocked in scenes]
            self.assertEqual(open_ticks(house), divided(marks, begin, length))
            for person in range(house.persons):
                marks = [person in waiters for _, waiters, _, _ in scenes]
                self.assertEqual(wait_ticks(house, person), divided(marks, begin, length))
                for first in (0, 1, begin, begin + 1, begin + length):
                    for last in (0, begin - 1, begin, begin + length, begin + 2 * length + 1):
                        if 0 <= last < len(marks):
                            self.assertEqual(count_waits(house, person, first, last), sum(marks[first:last + 1]))


def divided(marks, begin, length):
    """Return the ticks with a mark, before the cycle and in it."""
    ticks = [tick for tick in range(begin + length) if marks[tick]]
    return [tick for tick in ticks if tick < begin], [tick for tick in ticks if tick >= begin]


class FirstWaitTest(unittest.TestCase):
    def test_example(self):
        self.assertEqual(first_wait(PLAIN), (3, (0,)))

    def test_nobody_ever_waits(self):
        self.assertIsNone(first_wait(House(("h", "hh"), 0)))
        self.assertIsNone(first_wait(House(("hooh", "hhoo"), 2, (0,))))
        self.assertIsNone(first_wait(House(("hooh", "hhoo"), 0)))

    def test_several_persons(self):
        self.assertEqual(first_wait(House(("oh", "oh", "o"), 3)), (1, (0, 1)))

    def test_before_the_cycle(self):
        self.assertEqual(first_wait(House(("ooho", "oh"), 1, (0,))), (1, (1,)))

    def test_many_houses(self):
        for house in many_houses():
            expected = None
            for tick, persons in reversed(list(enumerate(rows_of(house)))):
                if persons:
                    expected = (tick, persons)
            self.assertEqual(first_wait(house), expected)


class LongestWaitTest(unittest.TestCase):
    def test_example(self):
        self.assertEqual(longest_wait(PLAIN), (1, 0, 3))

    def test_nobody_ever_waits(self):
        self.assertIsNone(longest_wait(House(("h", "hh"), 0)))
        self.assertIsNone(longest_wait(House(("hooh", "hhoo"), 2, (0,))))

    def test_the_longest_one_wins_though_later(self):
        house = House(("ohh", "ooho"), 2, (1,))
        self.assertEqual(wait_ticks(house, 0), ([1], [4, 5]))
        self.assertEqual(longest_wait(house), (2, 0, 4))

    def test_the_first_one_wins_a_tie(self):
        house = House(("o", "oohohhoo", "oohh"), 1, (0, 1))
        self.assertEqual([waiting(house, tick) for tick in range(2, 7)], [(1, 2), (2,), (1,), (1,), (2,)])
        self.assertEqual(longest_wait(house), (2, 2, 2))
        self.assertEqual(longest_wait(SHUT_OUT), (1, 0, 1))

    def test_the_smallest_person_wins_a_tie_of_first_ticks(self):
        self.assertEqual(longest_wait(House(("oh", "oh", "o"), 3)), (1, 0, 1))
        self.assertEqual(longest_wait(House(("o", "ohho", "ohho"), 1, (0,))), (2, 1, 1))

    def test_before_the_cycle(self):
        self.assertEqual(longest_wait(House(("ooho", "oh"), 1, (0,))), (1, 1, 1))

    def test_as_long_as_a_timetable_allows(self):
        self.assertEqual(longest_wait(House(("o" + "h" * 23, "o"), 1, (1,))), (23, 0, 1))

    def test_many_houses(self):
        for house in many_houses():
            self.assertEqual(longest_wait(house), best_wait(rows_of(house), house.persons))

    def test_a_wait_that_never_ends(self):
        # No house has one: who wants to be at home in all ticks never leaves. The rule itself holds.
        self.assertEqual(longest_of([(), (0,), (0,), ()], [(1,), (1,)]), (None, 1, 4))
        self.assertEqual(longest_of([(), (0,), (0, 1)], [(0, 1)]), (None, 0, 1))
        self.assertEqual(longest_of([(), (1,), (0, 1)], [(0, 1)]), (None, 1, 1))
        self.assertEqual(longest_of([()], [(0, 1), (0, 1)]), (None, 0, 1))

    def test_waits_over_the_end_of_the_cycle(self):
        self.assertEqual(longest_of([()], [(0,), (0,), (), (0,)]), (3, 0, 4))
        self.assertEqual(longest_of([(), (0,)], [(0,), (0,), (), (0,)]), (3, 0, 1))


def best_wait(rows, persons):
    """Return the longest wait that these rows show, the best first."""
    waits = []
    for person in range(persons):
        ticks = 0
        for tick, waiters in enumerate([*rows, ()]):
            if person in waiters:
                ticks += 1
            elif ticks:
                waits.append((-ticks, tick - ticks, person))
                ticks = 0
    if not waits:
        return None
    ticks, first, person = min(waits)
    return (-ticks, person, first)


class NextEntryTest(unittest.TestCase):
    def test_example(self):
        self.assertEqual(next_entry(PLAIN, 0, 3), 4)

    def test_at_home_already(self):
        self.assertEqual([next_entry(PLAIN, 0, tick) for tick in range(5)], [0, 4, 4, 4, 4])
        self.assertEqual([next_entry(PLAIN, 1, tick) for tick in range(5)], [0, 1, 4, 4, 4])

    def test_never_again(self):
        self.assertIsNone(next_entry(House(("o", "h"), 1), 0, 0))
        self.assertIsNone(next_entry(SHUT_OUT, 0, 0))
        self.assertIsNone(next_entry(SHUT_OUT, 0, LAST))
        self.assertIsNone(next_entry(SHUT_OUT, 1, 7))
        self.assertEqual(next_entry(House(("ho", "o"), 1, (1,)), 0, 0), 0)

    def test_behind_the_last_tick(self):
        self.assertEqual(next_entry(PLAIN, 0, LAST - 1), LAST)
        self.assertEqual(next_entry(House(("hohooo", "h"), 1), 0, LAST), LAST + 2)
        self.assertEqual(next_entry(House(("o" * 23 + "h", "h"), 1), 0, LAST), LAST + 7)

    def test_after_almost_all_ticks(self):
        self.assertEqual(next_entry(House(("o" * 23 + "h", "h"), 1), 0, 0), 23)
        self.assertEqual(next_entry(House(("h" + "o" * 23, "h"), 1), 0, 1), 24)

    def test_invalid_persons_and_ticks(self):
        for person in WRONG_PERSONS:
            self.assertIs(type(raised(next_entry, PLAIN, person, -1)), UnknownPerson, person)
        for tick in WRONG_TICKS:
            self.assertIs(type(raised(next_entry, PLAIN, 1, tick)), InvalidTick, tick)

    def test_many_houses(self):
        for house in many_houses():
            scenes, begin, length = retell(house)
            for person in range(house.persons):
                inside = [
                    tick for tick, (_, waiters, _, _) in enumerate(scenes)
                    if house.wants_home(person, tick) and person not in waiters
                ]
                for tick in range(0, begin + length, 2):
                    expected = min([found for found in inside if found >= tick], default=None)
                    self.assertEqual(next_entry(house, person, tick), expected)


class HousesTest(unittest.TestCase):
    def test_houses_stay_as_they_are_and_results_too(self):
        self.assertEqual(unsteady(all_results, range(20)), [])


def all_results(house):
    """Return what all functions of the module return for a house."""
    raised(waiting, house, -1)
    raised(count_waits, house, 0, 0, -1)
    return [
        waiting(house, 9), holders(house, 9), hook(house, 9), is_open(house, 9), wait_ticks(house, 0),
        open_ticks(house), count_waits(house, 0, 3, 99), first_wait(house), longest_wait(house), next_entry(house, 0, 3),
    ]


if __name__ == "__main__":
    unittest.main()
