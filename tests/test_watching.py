import itertools
import unittest

from doorkeys.errors import Contradiction, InvalidLimit, InvalidTick, InvalidWaiting
from doorkeys.houses import House
from doorkeys.watching import Watcher
from tests.helpers import LARGEST, LAST, NOT_INTEGERS, WRONG_TICKS, house_parts, model_of, raised, small_house

TABLES = ("hooh", "hhoo")
PLAIN = House(TABLES, 1)
# No groups of persons of a house with two of them.
WRONG_GROUPS = (
    None, True, False, 0, 5, "", "0", [], [0], [()], (1, 0), (0, 0), (0, 1, 1), (2,), (0, 2), (-1,), (-1, 0), (True,),
    (False,), (0, True), (None,), ("0",), ((0,),), ([0],), ((),), (10 ** 20,),
)


def all_candidates(persons, most):
    """Return all candidates in ascending order."""
    found = []
    for keys in range(most + 1):
        for choice in itertools.product((False, True), repeat=persons):
            found.append((keys, tuple(person for person, chosen in enumerate(choice) if chosen)))
    return sorted(found)


def model_rows(house, candidate, ticks):
    """Return who waits after some ticks if the candidate is right, by the model."""
    model = model_of(House(house.tables, candidate[0], candidate[1], house.reminders))
    rows = []
    for _ in range(ticks):
        model.step()
        rows.append(tuple(model.those("waits")))
    return rows


def state(watcher):
    return watcher.candidates, watcher.history


def watchers():
    """Yield houses of all kinds with how many keys they may have."""
    for seed in range(40):
        yield small_house(seed), seed % 5
    for seed in range(10):
        yield House(*house_parts(seed)), seed % 3


class BeginningTest(unittest.TestCase):
    def test_all_tuples_in_ascending_order(self):
        self.assertEqual(
            Watcher(PLAIN, 1).candidates,
            [(0, ()), (0, (0,)), (0, (0, 1)), (0, (1,)), (1, ()), (1, (0,)), (1, (0, 1)), (1, (1,))],
        )
        self.assertEqual(Watcher(House(("h",), 1), 2).candidates, all_candidates(1, 2))

    def test_every_most(self):
        for most in range(10):
            self.assertEqual(Watcher(PLAIN, most).candidates, all_candidates(2, most))

    def test_largest_house(self):
        watcher = Watcher(LARGEST, 9)
        self.assertEqual(watcher.candidates, all_candidates(6, 9))
        self.assertEqual(len(watcher.candidates), 640)

    def test_invalid_limits(self):
        for most in (-1, 10, 100, 10 ** 20) + NOT_INTEGERS:
            self.assertIs(type(raised(Watcher, PLAIN, most)), InvalidLimit, most)

    def test_keys_and_careful_persons_of_the_house_do_not_matter(self):
        for keys, careful in ((0, ()), (9, ()), (1, (0,)), (5, (0, 1))):
            watcher = Watcher(House(TABLES, keys, careful), 2)
            self.assertEqual(watcher.candidates, all_candidates(2, 2))
            self.assertEqual(watcher.best_tick(4), 3)
            self.assertEqual(watcher.see(3, (0,)), 4)
            self.assertEqual(watcher.candidates, [(1, ()), (1, (1,)), (2, ()), (2, (1,))])

    def test_reminders_of_the_house_matter(self):
        watcher = Watcher(House(TABLES, 1, (), ((1, 0),)), 2)
        self.assertEqual(watcher.possible(3), [()])

    def test_nothing_seen(self):
        watcher = Watcher(PLAIN, 2)
        self.assertEqual(watcher.history, [])


class SeeTest(unittest.TestCase):
    def setUp(self):
        self.watcher = Watcher(PLAIN, 2)

    def test_examples(self):
        self.assertEqual(self.watcher.see(3, (0,)), 4)
        self.assertEqual(self.watcher.candidates, [(1, ()), (1, (1,)), (2, ()), (2, (1,))])
        self.assertEqual(self.watcher.history, [(3, (0,))])
        self.assertIs(type(raised(Watcher(PLAIN, 2).see, 3, (1,))), Contradiction)

    def test_nobody_waits(self):
        self.assertEqual(self.watcher.see(3, ()), 8)
        self.assertEqual(
            self.watcher.candidates,
            [(0, ()), (0, (0,)), (0, (0, 1)), (0, (1,)), (1, (0,)), (1, (0, 1)), (2, (0,)), (2, (0, 1))],
        )

    def test_observations_add_up(self):
        house = House(("oooh", "oo", "ooho"), 1)
        watcher = Watcher(house, 2)
        self.assertEqual([watcher.see(tick, ()) for tick in (0, 2, 2, 6)], [24, 14, 14, 12])
        self.assertEqual(watcher.candidates, agreeing(house, 2, [(2, ()), (6, ())]))

    def test_last_tick(self):
        self.assertEqual(LAST % 4, 0)
        self.assertEqual(self.watcher.see(LAST, ()), 12)
        self.assertEqual(self.watcher.see(LAST - 1, (0,)), 4)
        self.assertEqual(self.watcher.candidates, [(1, ()), (1, (1,)), (2, ()), (2, (1,))])
        self.assertEqual(self.watcher.history, [(LAST, ()), (LAST - 1, (0,))])

    def test_invalid_ticks(self):
        before = state(self.watcher)
        for tick in WRONG_TICKS:
            for persons in ((), (1,), (1, 0), None):
                self.assertIs(type(raised(self.watcher.see, tick, persons)), InvalidTick, tick)
        self.assertEqual(state(self.watcher), before)

    def test_invalid_groups(self):
        self.watcher.see(3, (0,))
        before = state(self.watcher)
        for persons in WRONG_GROUPS:
            self.assertIs(type(raised(self.watcher.see, 3, persons)), InvalidWaiting, persons)
        self.assertEqual(state(self.watcher), before)

    def test_persons_of_the_house_only(self):
        three = Watcher(House(("h", "h", "h"), 1), 0)
        self.assertIs(type(raised(three.see, 0, (2,))), Contradiction)
        self.assertIs(type(raised(three.see, 0, (3,))), InvalidWaiting)

    def test_contradictions_are_not_accepted(self):
        for tick, persons in ((3, (1,)), (3, (0, 1)), (0, (0,)), (LAST, (0,))):
            before = state(self.watcher)
            self.assertIs(type(raised(self.watcher.see, tick, persons)), Contradiction)
            self.assertEqual(state(self.watcher), before)
        self.watcher.see(3, (0,))
        before = state(self.watcher)
        self.assertIs(type(raised(self.watcher.see, 7, ())), Contradiction)
        self.assertEqual(state(self.watcher), before)

    def test_many_houses(self):
        for house, most in watchers():
            watcher = Watcher(house, most)
            truth = all_candidates(house.persons, most)[-1]
            rows = model_rows(house, truth, 40)
            seen = []
            for tick in (5, 30, 2, 11, 5, 39, 17):
                seen.append((tick, rows[tick]))
                expected = agreeing(house, most, seen)
                self.assertEqual(watcher.see(tick, rows[tick]), len(expected))
                self.assertEqual(watcher.candidates, expected)
                self.assertEqual(watcher.history, seen)


def agreeing(house, most, seen):
    """Return the candidates that agree with observations, by the model."""
    ticks = max(tick for tick, _ in seen) + 1
    found = []
    for candidate in all_candidates(house.persons, most):
        rows = model_rows(house, candidate, ticks)
        if all(rows[tick] == persons for tick, persons in seen):
            found.append(candidate)
    return found


class SeeFromTest(unittest.TestCase):
    def setUp(self):
        self.watcher = Watcher(PLAIN, 2)

    def assert_refused(self, kind, first, *groups):
        before = state(self.watcher)
        self.assertIs(type(raised(self.watcher.see_from, first, *groups)), kind, (first, groups))
        self.assertEqual(state(self.watcher), before)

    def test_example(self):
        self.assertEqual(self.watcher.see_from(2, (), (0,), ()), 4)
        self.assertEqual(self.watcher.history, [(2, ()), (3, (0,)), (4, ())])

    def test_no_groups(self):
        self.assertEqual(self.watcher.see_from(2), 12)
        self.assertEqual(self.watcher.see_from(LAST), 12)
        self.assertEqual(self.watcher.history, [])
        self.watcher.see(3, (0,))
        self.assertEqual(self.watcher.see_from(0), 4)

    def test_same_as_seeing_one_after_another(self):
        other = Watcher(PLAIN, 2)
        self.watcher.see_from(5, (), (), (0,), ())
        for tick, persons in enumerate(((), (), (0,), ()), start=5):
            other.see(tick, persons)
        self.assertEqual(state(self.watcher), state(other))

    def test_up_to_the_last_tick(self):
        self.assertEqual(self.watcher.see_from(LAST - 1, (0,), ()), 4)
        self.assertEqual(self.watcher.history, [(LAST - 1, (0,)), (LAST, ())])
        self.assertEqual(self.watcher.see_from(LAST, ()), 4)

    def test_beyond_the_last_tick(self):
        self.assert_refused(InvalidTick, LAST, (), ())
        self.assert_refused(InvalidTick, LAST - 1, (0,), (), ())
        self.assert_refused(InvalidTick, LAST, (), (1, 0))

    def test_invalid_first_tick(self):
        for first in WRONG_TICKS:
            self.assert_refused(InvalidTick, first)
            self.assert_refused(InvalidTick, first, ())
            self.assert_refused(InvalidTick, first, None, (1,))

    def test_invalid_groups(self):
        for persons in WRONG_GROUPS:
            self.assert_refused(InvalidWaiting, 3, persons)
            self.assert_refused(InvalidWaiting, 2, (), persons)
            self.assert_refused(InvalidWaiting, 2, (), (0,), persons, ())

    def test_contradictions(self):
        self.assert_refused(Contradiction, 3, (1,))
        self.assert_refused(Contradiction, 2, (), (0,), (), (), (), ())
        self.watcher.see(3, (0,))
        self.assert_refused(Contradiction, 5, (), (), ())

    def test_errors_come_in_the_order_of_the_groups(self):
        self.assert_refused(Contradiction, 3, (1,), None)
        self.assert_refused(InvalidWaiting, 3, None, (0, 1))
        self.assert_refused(InvalidWaiting, LAST, (1, 0), ())
        self.assert_refused(Contradiction, LAST, (0,), ())

    def test_goes_on_after_an_error(self):
        self.assert_refused(Contradiction, 3, (0,), (0,))
        self.assertEqual(self.watcher.see_from(3, ()), 8)
        self.assertEqual(self.watcher.history, [(3, ())])


class ReadingTest(unittest.TestCase):
    def test_lists_are_new(self):
        watcher = Watcher(PLAIN, 2)
        watcher.see(3, (0,))
        watcher.candidates.clear()
        watcher.history.append(7)
        watcher.possible(3).append(7)
        self.assertEqual(watcher.candidates, [(1, ()), (1, (1,)), (2, ()), (2, (1,))])
        self.assertEqual(watcher.history, [(3, (0,))])
        self.assertEqual(watcher.possible(3), [(0,)])

    def test_lists_that_were_read_stay_as_they_are(self):
        watcher = Watcher(PLAIN, 2)
        candidates, history = state(watcher)
        watcher.see(3, (0,))
        self.assertEqual((len(candidates), history), (12, []))

    def test_same_observation_twice(self):
        watcher = Watcher(PLAIN, 2)
        self.assertEqual([watcher.see(3, (0,)), watcher.see(3, (0,)), watcher.see(7, (0,))], [4, 4, 4])
        self.assertEqual(watcher.history, [(3, (0,)), (3, (0,)), (7, (0,))])

    def test_two_watchers_of_one_house(self):
        first, second = Watcher(PLAIN, 2), Watcher(PLAIN, 2)
        before = state(second)
        first.see(3, (0,))
        self.assertEqual(state(second), before)
        self.assertEqual(second.see(3, ()), 8)
        self.assertEqual(len(first.candidates), 4)


class PossibleTest(unittest.TestCase):
    def test_example(self):
        self.assertEqual(Watcher(PLAIN, 2).possible(3), [(), (0,)])

    def test_after_observations(self):
        watcher = Watcher(PLAIN, 2)
        watcher.see(3, (0,))
        self.assertEqual([watcher.possible(tick) for tick in (0, 3, LAST - 1, LAST)], [[()], [(0,)], [(0,)], [()]])

    def test_ascending(self):
        # After this observation, the first candidate is one with which somebody waits after tick 6.
        watcher = Watcher(House(("oohh", "oooh", "ohoo"), 1), 1)
        watcher.see(5, (2,))
        self.assertEqual(watcher.candidates[0], (1, ()))
        self.assertEqual(model_rows(House(("oohh", "oooh", "ohoo"), 1), (1, ()), 7)[6], (0,))
        self.assertEqual(watcher.possible(6), [(), (0,)])

    def test_invalid_ticks(self):
        watcher = Watcher(PLAIN, 2)
        for tick in WRONG_TICKS:
            self.assertIs(type(raised(watcher.possible, tick)), InvalidTick, tick)

    def test_many_houses(self):
        for house, most in watchers():
            watcher = Watcher(house, most)
            rows = [model_rows(house, candidate, 30) for candidate in all_candidates(house.persons, most)]
            for tick in range(30):
                self.assertEqual(watcher.possible(tick), sorted(set(row[tick] for row in rows)))


class BestTickTest(unittest.TestCase):
    def test_example(self):
        self.assertEqual(Watcher(PLAIN, 2).best_tick(4), 3)

    def test_the_first_one_wins_a_tie(self):
        watcher = Watcher(PLAIN, 2)
        self.assertEqual([watcher.best_tick(limit) for limit in (1, 2, 3, 4, 5, 8, 100)], [0, 0, 0, 3, 3, 3, 3])

    def test_no_tick_tells_anything(self):
        self.assertEqual(Watcher(House(("h", "h"), 0), 3).best_tick(100), 0)
        watcher = Watcher(PLAIN, 2)
        watcher.see(3, (0,))
        self.assertEqual(watcher.best_tick(100), 0)

    def test_the_limit_itself_is_no_choice(self):
        watcher = Watcher(House(("h" + "o" * 22 + "h", "hh" + "o" * 22), 1), 2)
        self.assertEqual(watcher.best_tick(23), 0)
        self.assertEqual(watcher.best_tick(24), 23)

    def test_the_worst_case_counts(self):
        house = House(("ohoh", "ooho", "oohh"), 1)
        watcher = Watcher(house, 3)
        worst = worst_cases(house, 3, 100)
        self.assertGreater(len(set(worst)), 2)
        for limit in range(1, 101):
            self.assertEqual(watcher.best_tick(limit), worst.index(min(worst[:limit])))

    def test_invalid_limits(self):
        watcher = Watcher(PLAIN, 2)
        for limit in (-1, 0, 101, 10 ** 18) + NOT_INTEGERS:
            self.assertIs(type(raised(watcher.best_tick, limit)), InvalidLimit, limit)

    def test_watching_is_no_observation(self):
        watcher = Watcher(PLAIN, 2)
        before = state(watcher)
        self.assertEqual([watcher.best_tick(9), watcher.possible(3)], [watcher.best_tick(9), watcher.possible(3)])
        self.assertEqual(state(watcher), before)

    def test_many_houses(self):
        for house, most in watchers():
            worst = worst_cases(house, most, 40)
            for limit in (1, 7, 40):
                self.assertEqual(Watcher(house, most).best_tick(limit), worst.index(min(worst[:limit])))

    def test_after_observations(self):
        for house, most in watchers():
            watcher = Watcher(house, most)
            tick = watcher.best_tick(30)
            seen = [(tick, watcher.possible(tick)[-1])]
            watcher.see(*seen[0])
            rows = [model_rows(house, candidate, 20) for candidate in agreeing(house, most, seen)]
            worst = [most_common([row[after] for row in rows]) for after in range(20)]
            self.assertEqual(watcher.best_tick(20), worst.index(min(worst)))


def worst_cases(house, most, ticks):
    """Return how many candidates remain in the worst case after each tick, by the model."""
    rows = [model_rows(house, candidate, ticks) for candidate in all_candidates(house.persons, most)]
    return [most_common([row[tick] for row in rows]) for tick in range(ticks)]


def most_common(groups):
    """Return how often the most common one of some groups occurs."""
    return max(groups.count(group) for group in groups)


if __name__ == "__main__":
    unittest.main()
