"""What happens in a house, tick after tick."""

from doorkeys.checks import check_tick
from doorkeys.houses import is_home_letter

# Where a scene has the persons who wait, and whether the house is open.
WAITERS = 1
UNLOCKED = 3


class Course:
    """The persons and keys of a house after a tick; `tick` is -1 before tick 0."""

    def __init__(self, house):
        self.house = house
        self.span = house.period
        self.tick = -1
        self.home = list(range(house.persons))
        self.waiters = []
        self.carriers = []
        self.unlocked = False

    def scene(self):
        """Return all that decides what happens later."""
        return (self.tick % self.span, tuple(self.waiters), tuple(self.carriers), self.unlocked)

    def advance(self):
        """Let the next tick happen and return its events."""
        self.tick += 1
        wishes = [is_home_letter(table, self.tick) for table in self.house.tables]
        arrivals = self._arrive(wishes)
        return arrivals + self._depart(wishes)

    def _arrive(self, wishes):
        """Let all comers enter or wait, and return the events."""
        comers = [person for person, wish in enumerate(wishes) if wish and person not in self.home]
        self.waiters = []
        if not comers:
            return []
        if not self._can_enter(comers):
            self.waiters = comers
            return [(self.tick, "wait", person) for person in comers]
        self.home = sorted(self.home + comers)
        self.carriers = [person for person in self.carriers if person not in comers]
        self.unlocked = False
        return [(self.tick, "enter", person) for person in comers]

    def _can_enter(self, comers):
        """Return whether somebody or something lets the comers in."""
        if self.home or self.unlocked:
            return True
        return any([person in self.carriers for person in comers])

    def _depart(self, wishes):
        """Let all who want to be out leave, and return the events."""
        leavers = [person for person in self.home if not wishes[person]]
        self.home = [person for person in self.home if wishes[person]]
        events = []
        taken = False
        for person in leavers:
            events.append((self.tick, "leave", person))
            if self._thinks_of_key(person) and self._take_key(person):
                events.append((self.tick, "take", person))
                taken = True
        if leavers and not self.home and not taken:
            events.append(self._close(leavers[-1]))
        return events

    def _thinks_of_key(self, person):
        """Return whether a person who leaves thinks of a key."""
        if person in self.house.careful:
            return True
        return (self.tick % self.span, person) in self.house.reminders

    def _take_key(self, person):
        """Let a person take a key if one is left, and return whether one was."""
        if len(self.carriers) == self.house.key_count:
            return False
        self.carriers = sorted([*self.carriers, person])
        return True

    def _close(self, person):
        """Let the last person lock the empty house if possible, and return the event."""
        if self._take_key(person):
            return (self.tick, "take", person)
        self.unlocked = True
        return (self.tick, "open", None)


def course_after(house, tick):
    """Return the course of a house after a tick, also after -1."""
    begin, length = find_cycle(house)
    course = Course(house)
    for _ in range(early_tick(tick, begin, length) + 1):
        course.advance()
    # The same scene: its length is a multiple of the period.
    course.tick = tick
    return course


def at_home(house, tick):
    """Return the ascending list of the persons who are at home after a tick."""
    check_tick(tick)
    return course_after(house, tick).home


def find_cycle(house):
    """Return the tick after which the cycle begins, and its number of ticks."""
    return cycle_of(list(scenes_of(house)))


def cycle_of(scenes):
    """Return the beginning and the length of the cycle of a house with the scenes of `scenes_of`."""
    begin = scenes.index(scenes[-1])
    return (begin, len(scenes) - 1 - begin)


def early_tick(tick, begin, length):
    """Return the first tick with the same scene, given the beginning and the length of the cycle."""
    if tick < begin:
        return tick
    return begin + (tick - begin) % length


def scenes_of(house):
    """Yield the scenes from tick 0 on, up to the first that occurs a second time."""
    course = Course(house)
    course.advance()
    seen = {}
    while course.scene() not in seen:
        seen[course.scene()] = True
        yield course.scene()
        course.advance()
    yield course.scene()


def events_between(house, first, last):
    """Yield what happens from a first to a last tick."""
    check_tick(first)
    check_tick(last)
    course = course_after(house, first - 1)
    quiet = 0
    for _ in range(first, last + 1):
        events = course.advance()
        yield from events
        quiet = 0 if events else quiet + 1
        # Whoever does nothing in a whole period never does anything again.
        if quiet == course.span:
            return
