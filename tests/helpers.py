"""What several test files use."""

import math
import random

from doorkeys.houses import House

LAST = 10 ** 18
WRONG_TICKS = (-1, -LAST, LAST + 1, True, False, None, "0", "", (0,), [0], ())
WRONG_PERSONS = (-1, 2, 6, True, False, None, "0", (0,), [0], ())
LENGTHS = (1, 2, 3, 4, 6, 8, 12, 24)
NOT_INTEGERS = (True, False, None, "1", "", (1,), [1], ())
NOT_LISTS = (None, True, False, 0, 5, "", "undo", (), (75,), (("undo",),))
# Every part at its limit; the period is 24.
LARGEST = House(
    tuple("h" * (18 + person) + "o" * (6 - person) for person in range(6)), 9, (0, 1, 2, 3, 4, 5),
    tuple((tick, person) for tick in (22, 23) for person in range(1, 6)),
)


def raised(call, *arguments):
    """Return the error that a call raises, or None."""
    try:
        call(*arguments)
    except ValueError as error:
        return error
    return None


def parts_of(house):
    """Return all attributes of a house."""
    return house.tables, house.key_count, house.careful, house.reminders


def house_parts(seed):
    """Return the arguments of a valid house, different ones for different seeds."""
    chance = random.Random(seed)
    tables = []
    for _ in range(chance.randint(1, 6)):
        length = chance.choice(LENGTHS)
        tables.append("".join(chance.choice("ho") for _ in range(length)))
    period = math.lcm(*[len(table) for table in tables])
    persons = range(len(tables))
    careful = tuple(person for person in persons if chance.random() < 0.25)
    pairs = [(tick, person) for tick in range(period) for person in persons]
    chosen = chance.sample(pairs, min(len(pairs), chance.randint(0, 10)))
    return tuple(tables), chance.randint(0, 4), careful, tuple(sorted(chosen))


def model_of(house):
    """Return the model of a house before tick 0."""
    return Model(house.tables, house.key_count, house.careful, house.reminders, house.period)


def retell(house):
    """Return the model's scenes, tick after tick, from the first one until the cycle has run three times."""
    model = model_of(house)
    scenes = []
    while True:
        model.step()
        scene = model.scene()
        if scene in scenes:
            begin = scenes.index(scene)
            cycle = scenes[begin:]
            return scenes + cycle + cycle, begin, len(cycle)
        scenes.append(scene)


def rows_of(house):
    """Return who waits after each tick of `retell`, as tuples."""
    return [scene[1] for scene in retell(house)[0]]


def small_house(seed):
    """Return a house of one to four persons with a short period, different ones for different seeds."""
    chance = random.Random(seed)
    lengths = chance.choice(((1, 2, 3, 4), (2, 3, 6), (2, 4, 8), (3, 4, 6)))
    tables = tuple(
        "".join(chance.choice("hoo") for _ in range(chance.choice(lengths))) for _ in range(chance.randint(1, 4))
    )
    persons = range(len(tables))
    careful = tuple(person for person in persons if chance.random() < 0.3)
    house = House(tables, chance.randint(0, 3), careful)
    pairs = [(tick, person) for tick in range(house.period) for person in persons]
    chosen = chance.sample(pairs, min(len(pairs), chance.randint(0, 3)))
    return House(tables, house.key_count, careful, tuple(sorted(chosen)))


def unsteady(call, seeds):
    """Return the seeds whose house a call changes, or for which it returns something else when repeated."""
    found = []
    for seed in seeds:
        house = House(*house_parts(seed))
        results = [call(house), call(house)]
        if results[0] != results[1] or parts_of(house) != house_parts(seed):
            found.append(seed)
    return found


class Model:
    """Point 3 of the document once more, written straight from its words."""

    def __init__(self, tables, keys, careful, reminders, period):
        self.tables = tables
        self.careful = careful
        self.reminders = reminders
        self.period = period
        self.hook = keys
        self.is_open = False
        self.place = ["home"] * len(tables)
        self.carries = [False] * len(tables)
        self.tick = -1

    def wants(self, person):
        table = self.tables[person]
        return table[self.tick % len(table)] == "h"

    def step(self):
        """Go on by one tick and return what happens in it."""
        self.tick += 1
        return self.first_part() + self.second_part()

    def first_part(self):
        everybody = range(len(self.tables))
        comers = [p for p in everybody if self.place[p] != "home" and self.wants(p)]
        for person in everybody:
            if self.place[person] == "waits":
                self.place[person] = "out"
        if "home" in self.place or self.is_open or any(self.carries[p] for p in comers):
            for person in comers:
                self.place[person] = "home"
                self.hook += self.carries[person]
                self.carries[person] = False
                self.is_open = False
            return [(self.tick, "enter", person) for person in comers]
        for person in comers:
            self.place[person] = "waits"
        return [(self.tick, "wait", person) for person in comers]

    def second_part(self):
        happened = []
        leaving = [p for p in range(len(self.tables)) if self.place[p] == "home" and not self.wants(p)]
        for person in leaving:
            self.place[person] = "out"
            happened.append((self.tick, "leave", person))
            reminded = (self.tick % self.period, person) in self.reminders
            if (person in self.careful or reminded) and self.hook > 0:
                self.take(person, happened)
        if leaving and "home" not in self.place and not any(self.carries[p] for p in leaving):
            if self.hook > 0:
                self.take(leaving[-1], happened)
            else:
                self.is_open = True
                happened.append((self.tick, "open", None))
        return happened

    def take(self, person, happened):
        self.hook -= 1
        self.carries[person] = True
        happened.append((self.tick, "take", person))

    def those(self, place):
        return [person for person, where in enumerate(self.place) if where == place]

    def scene(self):
        return (self.tick % self.period, tuple(self.those("waits")), tuple(self.carries), self.is_open)
