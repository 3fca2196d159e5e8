"""What several test files use."""

import math
import random

LENGTHS = (1, 2, 3, 4, 6, 8, 12, 24)


def raised(call, *arguments):
    """Return the error that a call raises, or None."""
    try:
        call(*arguments)
    except ValueError as error:
        return error
    return None


def house_parts(seed):
    """Return the arguments of a valid house, different ones for different seeds."""
    chance = random.Random(seed)
    tables = []
    for _ in range(chance.randint(1, 6)):
        length = chance.choice(LENGTHS)
        tables.append("".join(chance.choice("ho") for _ in range(length)))
    period = math.lcm(*[len(table) for table in tables])
    persons = range(len(tables))
    careful = tuple(person for person in persons if chance.random() < 0.25)
    pairs = [(tick, person) for tick in range(period) for person in persons]
    chosen = chance.sample(pairs, min(len(pairs), chance.randint(0, 10)))
    return tuple(tables), chance.randint(0, 4), careful, tuple(sorted(chosen))


class Model:
    """Point 3 of the document once more, written straight from its words."""

    def __init__(self, tables, keys, careful, reminders, period):
        self.tables = tables
        self.careful = careful
        self.reminders = reminders
        self.period = period
        self.hook = keys
        self.is_open = False
        self.place = ["home"] * len(tables)
        self.carries = [False] * len(tables)
        self.tick = -1

    def wants(self, person):
        table = self.tables[person]
        return table[self.tick % len(table)] == "h"

    def step(self):
        """Go on by one tick and return what happens in it."""
        self.tick += 1
        return self.first_part() + self.second_part()

    def first_part(self):
        everybody = range(len(self.tables))
        comers = [p for p in everybody if self.place[p] != "home" and self.wants(p)]
        for person in everybody:
            if self.place[person] == "waits":
                self.place[person] = "out"
        if "home" in self.place or self.is_open or any(self.carries[p] for p in comers):
            for person in comers:
                self.place[person] = "home"
                self.hook += self.carries[person]
                self.carries[person] = False
                self.is_open = False
            return [(self.tick, "enter", person) for person in comers]
        for person in comers:
            self.place[person] = "waits"
        return [(self.tick, "wait", person) for person in comers]

    def second_part(self):
        happened = []
        leaving = [p for p in range(len(self.tables)) if self.place[p] == "home" and not self.wants(p)]
        for person in leaving:
            self.place[person] = "out"
            happened.append((self.tick, "leave", person))
            reminded = (self.tick % self.period, person) in self.reminders
            if (person in self.careful or reminded) and self.hook > 0:
                self.take(person, happened)
        if leaving and "home" not in self.place and not any(self.carries[p] for p in leaving):
            if self.hook > 0:
                self.take(leaving[-1], happened)
            else:
                self.is_open = True
                happened.append((self.tick, "open", None))
        return happened

    def take(self, person, happened):
        self.hook -= 1
        self.carries[person] = True
        happened.append((self.tick, "take", person))

    def those(self, place):
        return [person for person, where in enumerate(self.place) if where == place]

    def scene(self):
        return (self.tick % self.period, tuple(self.those("waits")), tuple(self.carries), self.is_open)
