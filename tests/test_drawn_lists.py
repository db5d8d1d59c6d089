"""Whole lists of drawn calls, all 26 in any order, against an object that answers from what a plan is."""

import random
import unittest
from functools import lru_cache

from pavedloads.loads import answers
from tests.helper import (
    GREATEST, NUMBERS, call, first_plan, is_plan, minutes_of_plans, pairs_that_tell, plan_there_is, split,
)


@lru_cache(maxsize=None)
def can_be(fill, lay, keep, fleet, ways):
    return plan_there_is(fill, lay, keep, fleet, ways)


def first_by_which(numbers, can):
    return next(([number] for number in numbers if can(number)), [-33])


def longer(ways, k, more):
    return (*ways[:k], ways[k] + more, *ways[k + 1:])


class Plain:
    """The object as the document tells it, call by call."""

    def __init__(self):
        self.told = None
        self.ways = []

    def answer(self, name, *numbers):
        if name != "begin" and self.told is None:
            return [-11]
        return getattr(self, name)(*numbers)

    def job(self):
        return (*self.told, tuple(self.ways))

    def begin(self, fill, lay, keep):
        if not (1 <= fill <= 60 and 1 <= lay <= 60 and keep <= 300):
            return [-22]
        self.told = [fill, lay, keep, 1]
        self.ways = []
        return [0]

    def load(self, way):
        if way > 120:
            return [-22]
        if len(self.ways) == 20:
            return [-28]
        self.ways.append(way)
        return [len(self.ways) - 1]

    def drive(self, k, way):
        if k >= len(self.ways):
            return [-2]
        if way > 120:
            return [-22]
        was, self.ways[k] = self.ways[k], way
        return [was]

    def less(self):
        if not self.ways:
            return [-6]
        self.ways.pop()
        return [len(self.ways)]

    def tell(self, place, number, least, greatest):
        if not least <= number <= greatest:
            return [-22]
        was, self.told[place] = self.told[place], number
        return [was]

    def lorries(self, number):
        return self.tell(3, number, 1, 20)

    def filling(self, minutes):
        return self.tell(0, minutes, 1, 60)

    def laying(self, minutes):
        return self.tell(1, minutes, 1, 60)

    def keeping(self, minutes):
        return self.tell(2, minutes, 0, 300)

    def can(self):
        return [int(can_be(*self.job()))]

    def why(self):
        return [-17] if can_be(*self.job()) else pairs_that_tell(*self.job())[0]

    def start(self):
        if not can_be(*self.job()):
            return [-33]
        return next([start] for start in range(5001) if first_plan(*self.job(), start) is not None)

    def ifstart(self, start):
        return [-22] if start > 5000 else [int(first_plan(*self.job(), start) is not None)]

    def by_plan(self, start, tell):
        if start > 5000:
            return [-22]
        minutes = minutes_of_plans(*self.job(), start)
        return [-33] if minutes is None else tell(minutes)

    def soonest(self, start):
        return self.by_plan(start, lambda minutes: [len(self.ways), *[one[0] for one in minutes]])

    def latest(self, start):
        return self.by_plan(start, lambda minutes: [len(self.ways), *[one[-1] for one in minutes]])

    def ages(self, start):
        return self.by_plan(start, lambda minutes: [len(self.ways), *[
            start + k * self.told[1] - one[0] for k, one in enumerate(minutes)]])

    def waits(self, start):
        return self.by_plan(start, lambda minutes: [len(self.ways), *[
            start + k * self.told[1] - (one[0] + self.ways[k]) for k, one in enumerate(minutes)]])

    def ends(self, start):
        return self.by_plan(start, lambda minutes: [start + len(self.ways) * self.told[1]])

    def tried(self, start, row):
        if start > 5000 or len(row) != len(self.ways):
            return [-22]
        return [int(is_plan(*self.job(), start, row))]

    def fewest(self):
        fill, lay, keep, fleet, ways = self.job()
        return first_by_which(range(1, 21), lambda one: can_be(fill, lay, keep, one, ways))

    def leastlay(self):
        fill, lay, keep, fleet, ways = self.job()
        return first_by_which(range(1, 61), lambda one: can_be(fill, one, keep, fleet, ways))

    def leastkeep(self):
        fill, lay, keep, fleet, ways = self.job()
        return first_by_which(range(301), lambda one: can_be(fill, lay, one, fleet, ways))

    def mostfill(self):
        fill, lay, keep, fleet, ways = self.job()
        return first_by_which(range(60, 0, -1), lambda one: can_be(one, lay, keep, fleet, ways))

    def spare(self, k):
        if k >= len(self.ways):
            return [-2]
        fill, lay, keep, fleet, ways = self.job()
        if not can_be(*self.job()):
            return [-33]
        more = 0
        while more < 300 and can_be(fill, lay, keep, fleet, longer(ways, k, more + 1)):
            more += 1
        return [more]

    def tour(self, lorry):
        if lorry >= self.told[3]:
            return [-2]
        loads = list(range(lorry, len(self.ways), self.told[3]))
        return [len(loads), *loads]

    def drives(self):
        return [len(self.ways), *self.ways]

    def state(self):
        return [0, *self.told, len(self.ways)]


class Drawn:
    """Calls drawn by a source of their own; great is how far ways, keeping and the loads' number go."""

    def __init__(self, seed, great):
        self.source = random.Random(seed)
        self.great = great
        self.plain = Plain()

    def pick(self, usual, *edges):
        return self.source.choice(edges) if self.source.random() < 0.08 else usual

    def start(self):
        soonest = 0
        if self.plain.told is not None and can_be(*self.plain.job()):
            soonest = self.plain.start()[0]
        near = max(0, soonest + self.source.randrange(-2, 12))
        return self.pick(near, 0, 1, 4999, 5000, 5001, GREATEST)

    def row(self, start):
        """Often near a plan: from the first minutes that some plan has, then moved at one load."""
        number = len(self.plain.ways)
        minutes = None
        if self.plain.told is not None and start <= 5000:
            minutes = minutes_of_plans(*self.plain.job(), start)
        if minutes is None:
            return [self.source.randrange(65536) for load in range(number + self.source.randrange(2))]
        row = [one[self.source.choice((0, -1))] for one in minutes]
        if number and self.source.random() < 0.5:
            k = self.source.randrange(number)
            row[k] = max(0, row[k] + self.source.choice((-1, 1)))
        return self.pick(row, [], row[1:], [*row, 9], [0] * number, [65535] * number)

    def numbers(self, name):
        draw = self.source.randrange
        fill = lambda: self.pick(draw(1, 5 * self.great), 0, 1, 60, 61, GREATEST)
        lay = lambda: self.pick(draw(2 * self.great, 12 * self.great), 0, 1, 60, 61, GREATEST)
        way = lambda: self.pick(draw(10 * self.great), 0, 120, 121, GREATEST)
        keep = lambda: self.pick(draw(5, 40 * self.great), 0, 300, 301, GREATEST)
        k = lambda: self.pick(draw(len(self.plain.ways) or 1), len(self.plain.ways), 20, GREATEST)
        if name == "begin":
            return [fill(), lay(), keep()]
        if name == "load":
            return [way()]
        if name == "drive":
            return [k(), way()]
        if name == "lorries":
            return [self.pick(draw(2, 10), 0, 1, 20, 21, GREATEST)]
        if name == "filling":
            return [fill()]
        if name == "laying":
            return [lay()]
        if name == "keeping":
            return [keep()]
        if name == "spare":
            return [k()]
        if name == "tour":
            return [self.pick(draw(8), 0, 19, 20, GREATEST)]
        if name in ("soonest", "latest", "ages", "waits", "ifstart", "ends"):
            return [self.start()]
        if name == "tried":
            start = self.start()
            return [start, self.row(start)]
        return []

    def calls(self, number):
        """So many calls, each with what it is to answer."""
        drawn = []
        # A begin would throw away all that was told, and loads must come faster than they go.
        names = [name for name in NUMBERS if name != "begin"] + ["load"] * (2 + self.great)
        for at in range(number):
            name = "begin" if at == 2 or self.source.random() < 0.01 else self.source.choice(names)
            numbers = self.numbers(name)
            drawn.append((call(name, *numbers), self.plain.answer(name, *numbers)))
        return drawn


class DrawnLists(unittest.TestCase):
    def assert_answered(self, drawn):
        calls = [number for one, answer in drawn for number in one]
        before = list(calls)
        given = answers(calls)
        self.assertEqual(calls, before)
        for (one, answer), got in zip(drawn, split(given), strict=True):
            self.assertEqual(got, answer, (one, calls))

    def test_lists(self):
        kinds = {}
        for seed in range(120):
            drawn = Drawn(seed, 1 + seed % 3).calls(40 + 36 * (seed % 7))
            self.assert_answered(drawn)
            for one, answer in drawn:
                kinds.setdefault(one[0], {}).setdefault(min(answer[0], 0), 0)
                kinds[one[0]][min(answer[0], 0)] += 1
        # What was drawn is no good if it leaves out a call, or almost always has it refused.
        for name, number in NUMBERS.items():
            self.assertGreater(kinds[number].get(0, 0), 40, (name, kinds[number]))


if __name__ == "__main__":
    unittest.main()
