import unittest

from doorkeys.comparison import first_difference, first_error
from doorkeys.errors import DifferentHouses
from doorkeys.houses import House
from doorkeys.waits import waiting
from tests.helpers import house_parts, model_of, raised, small_house, unsteady

TABLES = ("hooh", "hhoo")
PLAIN = House(TABLES, 1)


class FirstDifferenceTest(unittest.TestCase):
    def test_example(self):
        self.assertEqual(first_difference(PLAIN, House(TABLES, 2, (0,))), (3, (0,), ()))

    def test_the_persons_of_each_house_in_their_order(self):
        self.assertEqual(first_difference(House(TABLES, 2, (0,)), PLAIN), (3, (), (0,)))
        waiters = House(("oh", "oh", "o"), 3)
        self.assertEqual(first_difference(waiters, House(("oh", "oo", "o"), 3)), (1, (0, 1), (0,)))

    def test_no_difference(self):
        self.assertIsNone(first_difference(PLAIN, PLAIN))
        self.assertIsNone(first_difference(PLAIN, House(TABLES, 1)))
        self.assertIsNone(first_difference(House(("h", "o"), 3), House(("ho", "hho"), 3, (0, 1))))

    def test_other_timetables_in_which_the_same_persons_wait(self):
        self.assertIsNone(first_difference(House(("oh", "o"), 1, (1,)), House(("ohohohoh", "oooooo"), 4, (1,))))

    def test_only_waiting_persons_matter(self):
        self.assertIsNone(first_difference(House(TABLES, 0), House(("h", "h"), 9, (0, 1))))

    def test_late_difference(self):
        # The only letter in which they differ comes after 23 ticks.
        house = House(("oh" * 12, "o"), 1, (1,))
        other = House(("oh" * 11 + "oo", "o"), 1, (1,))
        self.assertEqual(first_difference(house, other), (23, (0,), ()))

    def test_difference_after_the_cycles_of_both(self):
        # Cycles of 3 and 8 ticks: the longer one is over before they differ.
        house = House(("oho", "o"), 1, (1,))
        other = House(("ohoohooh", "o"), 1, (1,))
        self.assertEqual(first_difference(house, other), (9, (), (0,)))
        self.assertEqual(first_difference(other, house), (9, (0,), ()))

    def test_different_numbers_of_persons(self):
        for tables in (("h",), ("hooh", "hhoo", "h"), ("h",) * 6):
            self.assertIs(type(raised(first_difference, PLAIN, House(tables, 1))), DifferentHouses)
            self.assertIs(type(raised(first_difference, House(tables, 1), PLAIN)), DifferentHouses)

    def test_values_that_are_no_houses(self):
        for value in (None, True, False, 2, "", "hooh", ("hooh", "hhoo"), [], ["hooh"], ()):
            self.assertIs(type(raised(first_difference, PLAIN, value)), DifferentHouses)
            self.assertIs(type(raised(first_difference, value, PLAIN)), DifferentHouses)

    def test_many_houses(self):
        houses = [small_house(seed) for seed in range(60)] + [House(*house_parts(seed)) for seed in range(60)]
        for house in houses:
            for other in houses[::6]:
                if house.persons == other.persons:
                    self.assertEqual(first_difference(house, other), difference_by_trying(house, other))


def difference_by_trying(house, other):
    """Return the first difference that the models show in many ticks."""
    first, second = model_of(house), model_of(other)
    for tick in range(100):
        first.step()
        second.step()
        pair = (tuple(first.those("waits")), tuple(second.those("waits")))
        if pair[0] != pair[1]:
            return (tick, *pair)
    return None


class FirstErrorTest(unittest.TestCase):
    def test_example(self):
        self.assertEqual(first_error(PLAIN, [(), (), (), ()]), 3)

    def test_correct_logs(self):
        log = [(), (), (), (0,)] * 25
        for length in range(len(log) + 1):
            self.assertIsNone(first_error(PLAIN, log[:length]))
        several = House(("oh", "oh", "o"), 3)
        self.assertIsNone(first_error(several, [(), (0, 1), (), (0, 1)]))

    def test_wrong_items(self):
        self.assertEqual(first_error(PLAIN, [(0,)]), 0)
        self.assertEqual(first_error(PLAIN, [(), (), (), (1,)]), 3)
        self.assertEqual(first_error(PLAIN, [(), (), (), (0, 1)]), 3)
        self.assertEqual(first_error(PLAIN, [(), (), (), (0, 0)]), 3)
        self.assertEqual(first_error(PLAIN, [(), (), (), (0,)] * 9 + [(), (0,)]), 37)

    def test_the_first_of_several_wrong_items(self):
        self.assertEqual(first_error(PLAIN, [(), (0,), (), ()]), 1)

    def test_persons_in_another_order(self):
        self.assertEqual(first_error(House(("oh", "oh", "o"), 3), [(), (1, 0)]), 1)

    def test_a_log_that_is_no_list(self):
        for log in (((), (), ()), (), None, 0, 5, True, False, "", "()", "0"):
            self.assertEqual(first_error(PLAIN, log), 0)

    def test_items_that_are_no_tuples(self):
        for item in ([], None, 0, False, True, "", "0", [()]):
            self.assertEqual(first_error(PLAIN, [item]), 0, item)
            self.assertEqual(first_error(PLAIN, [(), item]), 1, item)
        for item in ([0], 0, "0", None, ([0],), ((0,),), (None,), ("0",)):
            self.assertEqual(first_error(PLAIN, [(), (), (), item]), 3, item)

    def test_booleans_are_no_persons(self):
        self.assertEqual(first_error(PLAIN, [(), (), (), (False,)]), 3)
        house = House(("o", "oh"), 1, (0,))
        self.assertIsNone(first_error(house, [(), (1,)]))
        self.assertEqual(first_error(house, [(), (True,)]), 1)

    def test_the_log_stays_as_it_is(self):
        log = [(), (), (), (0,), (1,)]
        results = [first_error(PLAIN, log), first_error(PLAIN, log)]
        self.assertEqual(results, [4, 4])
        self.assertEqual(log, [(), (), (), (0,), (1,)])

    def test_many_houses(self):
        for seed in range(100):
            house = House(*house_parts(seed))
            log = [waiting(house, tick) for tick in range(40)]
            self.assertIsNone(first_error(house, log))
            place = seed % 40
            log[place] = () if log[place] else (seed % house.persons,)
            self.assertEqual(first_error(house, log), place)


class HousesTest(unittest.TestCase):
    def test_houses_stay_as_they_are_and_results_too(self):
        self.assertEqual(unsteady(lambda house: first_difference(house, House(house.tables, 1)), range(20)), [])
        self.assertEqual(unsteady(lambda house: first_difference(House(house.tables, 1), house), range(20)), [])
        self.assertEqual(unsteady(lambda house: first_error(house, [()] * 30), range(20)), [])


if __name__ == "__main__":
    unittest.main()
