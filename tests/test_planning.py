import itertools
import unittest

from doorkeys.errors import InvalidLimit
from doorkeys.houses import House
from doorkeys.planning import fewest_careful, idle_reminders, least_keys, plan_reminders
from tests.helpers import house_parts, raised, retell, small_house, unsteady

TABLES = ("hooh", "hhoo")
TWO_DAYS = ("hoohhooh", "hhoohhoo")
WRONG_LIMITS = (-1, 3, 10, True, False, None, "1", "", (1,), [1], ())
TEN = ((1, 0), (1, 1), (2, 0), (2, 1), (3, 0), (3, 1), (5, 0), (5, 1), (6, 0), (6, 1))


def smooth(house):
    """Return whether the model shows neither waiting persons nor an open house."""
    return not any(waiters or unlocked for _, waiters, _, unlocked in retell(house)[0])


def all_reminders(house):
    """Return all reminders that the house does not have."""
    pairs = itertools.product(range(house.period), range(house.persons))
    return [pair for pair in pairs if pair not in house.reminders]


def best_plan(house, limit):
    """Return the result of `plan_reminders` by trying everything."""
    for count in range(limit + 1):
        for more in itertools.combinations(all_reminders(house), count):
            reminders = tuple(sorted(house.reminders + more))
            if len(reminders) <= 10 and smooth(House(house.tables, house.key_count, house.careful, reminders)):
                return more
    return None


class LeastKeysTest(unittest.TestCase):
    def test_example(self):
        self.assertEqual(least_keys(House(TABLES, 1, (0,))), 2)

    def test_own_number_of_keys_does_not_matter(self):
        self.assertEqual([least_keys(House(TABLES, keys, (0,))) for keys in range(10)], [2] * 10)

    def test_no_keys_are_needed(self):
        self.assertEqual(least_keys(House(("h", "hh"), 9)), 0)
        self.assertEqual(least_keys(House(("h", "ho"), 9)), 0)

    def test_no_number_is_enough(self):
        self.assertIsNone(least_keys(House(TABLES, 9)))
        self.assertIsNone(least_keys(House(("oh", "oh", "o"), 0, (2,))))

    def test_open_house_is_not_smooth(self):
        # Without a key nobody waits, but the house is open after each second tick.
        self.assertEqual(least_keys(House(("ho",), 0)), 1)

    def test_reminders_count(self):
        self.assertEqual(least_keys(House(TABLES, 0, (), ((1, 0),))), 2)
        self.assertIsNone(least_keys(House(TABLES, 0, (), ((0, 0),))))

    def test_many_houses(self):
        houses = [small_house(seed) for seed in range(200)] + [House(*house_parts(seed)) for seed in range(60)]
        for house in houses:
            found = [
                keys for keys in range(10) if smooth(House(house.tables, keys, house.careful, house.reminders))
            ]
            self.assertEqual(least_keys(house), min(found, default=None))


class FewestCarefulTest(unittest.TestCase):
    def test_example(self):
        self.assertEqual(fewest_careful(House(TABLES, 2)), (0,))

    def test_present_careful_persons_do_not_matter(self):
        for careful in ((), (0,), (1,), (0, 1)):
            self.assertEqual(fewest_careful(House(TABLES, 2, careful)), (0,))

    def test_nobody_needs_to_be_careful(self):
        self.assertEqual(fewest_careful(House(("h", "ho"), 0, (0, 1))), ())
        self.assertEqual(fewest_careful(House(TABLES, 2, (), ((1, 0),))), ())

    def test_not_enough_keys(self):
        self.assertIsNone(fewest_careful(House(TABLES, 1, (0, 1))))
        self.assertIsNone(fewest_careful(House(("ho",), 0)))

    def test_several_must_be_careful(self):
        # Persons 0 and 1 each come home first on one of the two days.
        house = House(("hoohhhoo", "hhoohooh", "hhoohhoo"), 3)
        self.assertEqual(fewest_careful(house), (0, 1))

    def test_the_first_of_the_shortest_tuples_wins(self):
        # Either of the persons 0 and 1 lets the other one in.
        twins = House(("hooh", "hooh", "hhoo"), 2)
        self.assertTrue(smooth(House(twins.tables, 2, (1,))))
        self.assertEqual(fewest_careful(twins), (0,))

    def test_a_shorter_tuple_wins_though_later(self):
        house = House(("hhoo", "hooo", "hooh"), 2)
        self.assertTrue(smooth(House(house.tables, 2, (0, 2))))
        self.assertEqual(fewest_careful(house), (2,))

    def test_many_houses(self):
        houses = [small_house(seed) for seed in range(200)] + [House(*house_parts(seed)) for seed in range(60)]
        lengths = []
        for house in houses:
            result = fewest_careful(house)
            self.assertEqual(result, careful_by_trying(house))
            lengths.append(len(result) if result is not None else -1)
        self.assertTrue({-1, 0, 1, 2} <= set(lengths))


def careful_by_trying(house):
    """Return the first of the shortest tuples of all careful persons that make a house smooth."""
    found = []
    for choice in itertools.product((False, True), repeat=house.persons):
        careful = tuple(person for person, chosen in enumerate(choice) if chosen)
        if smooth(House(house.tables, house.key_count, careful, house.reminders)):
            found.append((len(careful), careful))
    return min(found)[1] if found else None


class PlanRemindersTest(unittest.TestCase):
    def test_example(self):
        self.assertEqual(plan_reminders(House(TABLES, 2), 1), ((1, 0),))

    def test_limits(self):
        smooth_house = House(("h", "ho"), 0)
        self.assertEqual([plan_reminders(smooth_house, limit) for limit in (0, 1, 2)], [(), (), ()])
        one = House(TABLES, 2)
        self.assertEqual([plan_reminders(one, limit) for limit in (0, 1, 2)], [None, ((1, 0),), ((1, 0),)])
        two = House(TWO_DAYS, 2)
        self.assertEqual([plan_reminders(two, limit) for limit in (0, 1, 2)], [None, None, ((1, 0), (5, 0))])
        three = House(("hooh" * 3, "hhoo" * 3), 2)
        self.assertEqual([plan_reminders(three, limit) for limit in (0, 1, 2)], [None] * 3)
        self.assertIsNone(plan_reminders(House(TABLES, 1), 2))

    def test_own_reminders_stay(self):
        first, second = (1, 0), (5, 0)
        self.assertEqual(plan_reminders(House(TWO_DAYS, 2, (), (first,)), 2), (second,))
        self.assertEqual(plan_reminders(House(TWO_DAYS, 2, (), (second,)), 1), (first,))
        self.assertEqual(plan_reminders(House(TWO_DAYS, 2, (), (first, second)), 0), ())

    def test_careful_persons_stay(self):
        self.assertEqual(plan_reminders(House(TWO_DAYS, 2, (0,)), 2), ())
        self.assertEqual(plan_reminders(House(TWO_DAYS, 2, (1,)), 2), ((1, 0), (5, 0)))

    def test_the_first_tuple_wins_a_tie(self):
        twins = House(("hooh", "hooh", "hhoo"), 2)
        self.assertTrue(smooth(House(twins.tables, 2, (), ((1, 1),))))
        self.assertEqual(plan_reminders(twins, 2), ((1, 0),))

    def test_tick_0_after_a_timetable_that_ends_outside(self):
        # Person 0 leaves in tick 0 and in no other first tick of the period.
        self.assertEqual(plan_reminders(House(("oho", "o"), 3, (), ((0, 1),)), 2), ((0, 0),))
        self.assertEqual(plan_reminders(House(("oho", "ooh"), 3), 2), ((0, 0), (2, 0)))

    def test_not_more_than_ten_reminders(self):
        tables = ("hoohhhhh", "hhoohhhh")
        ten = ((0, 0), (0, 1), (3, 0), (3, 1), (4, 0), (4, 1), (5, 0), (5, 1), (6, 0), (6, 1))
        self.assertEqual(plan_reminders(House(tables, 2, (), ten[:9]), 2), ((1, 0),))
        self.assertIsNone(plan_reminders(House(tables, 2, (), ten), 2))
        self.assertIsNone(plan_reminders(House(tables, 2, (), ten), 0))

    def test_two_more_than_nine_reminders(self):
        tables = (TWO_DAYS[0] + "hhhh", TWO_DAYS[1] + "hhhh")
        idle = tuple((tick, person) for tick in (0, 8, 9, 10, 11) for person in (0, 1))
        plan = ((1, 0), (5, 0))
        self.assertEqual(plan_reminders(House(tables, 2, (), idle[:8]), 2), plan)
        self.assertIsNone(plan_reminders(House(tables, 2, (), idle[:9]), 2))
        self.assertIsNone(plan_reminders(House(tables, 2, (), idle), 2))

    def test_smooth_with_ten_reminders(self):
        house = House(("h" * 8, "h" * 8), 0, (), TEN)
        self.assertEqual([plan_reminders(house, limit) for limit in (0, 1, 2)], [(), (), ()])

    def test_invalid_limits(self):
        for limit in WRONG_LIMITS:
            for house in (House(TABLES, 2), House(("h",), 0)):
                self.assertIs(type(raised(plan_reminders, house, limit)), InvalidLimit, limit)

    def test_many_houses(self):
        lengths = []
        for seed in range(250):
            house = small_house(seed)
            limit = 2 if house.period * house.persons <= 12 else 1
            result = plan_reminders(house, limit)
            self.assertEqual(result, best_plan(house, limit), seed)
            lengths.append(len(result) if result is not None else -1)
        self.assertEqual(set(lengths), {-1, 0, 1, 2})


class IdleRemindersTest(unittest.TestCase):
    def test_example(self):
        house = House(TABLES, 2, (), ((0, 0), (1, 0)))
        self.assertEqual(idle_reminders(house), [(0, 0)])

    def test_no_reminders(self):
        self.assertEqual(idle_reminders(House(TABLES, 2)), [])

    def test_careful_persons_need_no_reminder(self):
        house = House(TABLES, 2, (0,), ((0, 0), (1, 0)))
        self.assertEqual(idle_reminders(house), [(0, 0), (1, 0)])

    def test_the_last_one_needs_no_reminder(self):
        self.assertEqual(idle_reminders(House(TABLES, 1, (), ((2, 1),))), [(2, 1)])

    def test_without_keys_all_are_idle(self):
        self.assertEqual(idle_reminders(House(TABLES, 0, (), ((1, 0), (2, 1)))), [(1, 0), (2, 1)])

    def test_ten_reminders(self):
        house = House(("h" * 8, "h" * 8), 0, (), TEN)
        self.assertEqual(idle_reminders(house), list(TEN))

    def test_each_is_left_out_alone(self):
        # Person 2 is the last one and would take the key if nobody else had.
        house = House(("ho", "ho", "ho"), 1, (), ((1, 0), (1, 1)))
        self.assertEqual(idle_reminders(house), [(1, 1)])
        self.assertEqual(idle_reminders(House(("ho", "ho", "ho"), 1, (), ((1, 1),))), [])

    def test_a_change_after_a_whole_period(self):
        # In tick 2 person 0 is outside, but in tick 8 this person leaves a house with somebody in it.
        house = House(("oho", "oohhoo"), 3, (1,), ((2, 0), (3, 0)))
        self.assertEqual(idle_reminders(house), [(3, 0)])

    def test_list_is_new(self):
        house = House(TABLES, 2, (), ((0, 0), (1, 0)))
        idle_reminders(house).append(7)
        self.assertEqual(idle_reminders(house), [(0, 0)])

    def test_many_houses(self):
        for seed in range(200):
            for house in (small_house(seed), House(*house_parts(seed))):
                self.assertEqual(idle_reminders(house), idle_by_trying(house))


def idle_by_trying(house):
    """Return the idle reminders by comparing the model's scenes of many ticks."""
    idle = []
    scenes = retell(house)[0]
    for index, reminder in enumerate(house.reminders):
        others = house.reminders[:index] + house.reminders[index + 1:]
        changed = retell(House(house.tables, house.key_count, house.careful, others))[0]
        # Both lists hold three rounds of a cycle, more than it takes to differ.
        if scenes == changed:
            idle.append(reminder)
    return idle


class HousesTest(unittest.TestCase):
    def test_houses_stay_as_they_are_and_results_too(self):
        self.assertEqual(unsteady(all_results, range(10)), [])


def all_results(house):
    """Return what all functions of the module return for a house."""
    raised(plan_reminders, house, 3)
    return [least_keys(house), fewest_careful(house), plan_reminders(house, 1), idle_reminders(house)]


if __name__ == "__main__":
    unittest.main()
