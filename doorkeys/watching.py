"""What those who see the waiting persons can conclude about a house."""

from itertools import combinations

from doorkeys.checks import check_tick, is_below, is_integer
from doorkeys.days import WAITERS, cycle_of, early_tick, scenes_of
from doorkeys.errors import Contradiction, InvalidLimit, InvalidWaiting
from doorkeys.houses import MOST_KEYS, House

LONGEST_SEARCH = 100


class Watcher:
    """Sees who waits outside a house whose number of keys and careful persons are not known."""

    def __init__(self, house, most):
        if not is_below(most, MOST_KEYS + 1):
            raise InvalidLimit("the number of keys is at most an integer from 0 to 9")
        self._persons = house.persons
        self._remaining = list_candidates(house, most)
        self._accepted = []

    @property
    def candidates(self):
        """The list of all tuples (keys, careful persons) that are still possible."""
        return [candidate.pair for candidate in self._remaining]

    @property
    def history(self):
        """The list of all accepted observations."""
        return list(self._accepted)

    def see(self, tick, persons):
        """Observe who waits after a tick, and return the number of candidates."""
        return self.see_from(tick, persons)

    def see_from(self, first, *groups):
        """Observe who waits after successive ticks, and return the number of candidates."""
        check_tick(first)
        remaining = self._remaining
        for tick, persons in enumerate(groups, start=first):
            remaining = self._agreeing(remaining, tick, persons)
        # Only now, because an error in between must leave everything as it was.
        self._remaining = remaining
        self._accepted.extend(list(enumerate(groups, start=first)))
        return len(remaining)

    def possible(self, tick):
        """Return the list of all tuples of persons who can wait after a tick."""
        check_tick(tick)
        return sorted(set([candidate.waiters_after(tick) for candidate in self._remaining]))

    def best_tick(self, limit):
        """Return the first tick below a limit that leaves the fewest candidates in the worst case."""
        if not is_integer(limit) or not 1 <= limit <= LONGEST_SEARCH:
            raise InvalidLimit("a limit is an integer from 1 to 100")
        counts = [self._count_worst(tick) for tick in range(limit)]
        return counts.index(min(counts))

    def _agreeing(self, remaining, tick, persons):
        """Return those of the remaining candidates that agree with an observation."""
        check_tick(tick)
        if not is_ascending_group(persons, self._persons):
            raise InvalidWaiting("those who wait are an ascending tuple of different persons")
        agreeing = [candidate for candidate in remaining if candidate.waiters_after(tick) == persons]
        if not agreeing:
            raise Contradiction("no candidate agrees with this observation")
        return agreeing

    def _count_worst(self, tick):
        """Return how many candidates an observation after a tick leaves in the worst case."""
        counts = {}
        for candidate in self._remaining:
            persons = candidate.waiters_after(tick)
            counts[persons] = counts.get(persons, 0) + 1
        return max(counts.values())


class Candidate:
    """A number of keys and careful persons, with all that is ever seen outside such a house."""

    def __init__(self, house):
        scenes = list(scenes_of(house))
        self.pair = (house.key_count, house.careful)
        self.begin, self.length = cycle_of(scenes)
        self.groups = [scene[WAITERS] for scene in scenes]

    def waiters_after(self, tick):
        """Return the tuple of the persons who wait outside after a tick."""
        return self.groups[early_tick(tick, self.begin, self.length)]


def list_candidates(house, most):
    """Return all candidates with at most so many keys, by their keys and careful persons."""
    return [
        Candidate(House(house.tables, keys, careful, house.reminders))
        for keys in range(most + 1)
        for careful in list_groups(house.persons)
    ]


def list_groups(persons):
    """Return all ascending tuples of so many persons, in ascending order."""
    return sorted([group for count in range(persons + 1) for group in combinations(range(persons), count)])


def is_ascending_group(value, persons):
    """Return whether a value is an ascending tuple of different ones of so many persons."""
    if not isinstance(value, tuple) or not all([is_below(person, persons) for person in value]):
        return False
    return list(value) == sorted(set(value))
