"""What holds (a to d), against a plain search for plans as the document defines them."""

import itertools
import random
import unittest

from pavedloads.loads import answers
from tests.helper import (
    all_plans, ask, call, first_plan, is_plan, job, minutes_of_plans, pairs_that_tell, plan_there_is, split,
)

BY_START = ("soonest", "latest", "ifstart", "ages", "waits", "ends")


def answered(told, starts):
    """can, why, start, and for each start what the calls by a start answer; the list stays as it was."""
    calls = job(*told) + [call("can"), call("why"), call("start")]
    for start in starts:
        calls += [call(name, start) for name in BY_START]
    flat = [number for one in calls for number in one]
    before = list(flat)
    parts = split(answers(flat))
    assert flat == before
    parts = parts[2 + len(told[4]):]
    by_start = [parts[at:at + len(BY_START)] for at in range(3, len(parts), len(BY_START))]
    return parts[:3], dict(zip(starts, by_start, strict=True))


def small_jobs():
    for number in (1, 2, 3):
        for ways in itertools.product(range(3), repeat=number):
            for fill, lay, keep in itertools.product((1, 2, 3), (1, 2, 4), (0, 1, 2, 4)):
                for fleet in range(1, number + 2):
                    yield fill, lay, keep, fleet, list(ways)


def somewhat_longer_jobs(number):
    source = random.Random(20)
    for turn in range(number):
        ways = [source.randrange(4) for load in range(source.randrange(4, 6))]
        yield source.randrange(1, 4), source.randrange(1, 6), source.randrange(6), source.randrange(1, 6), ways


def great_jobs(number):
    source = random.Random(5000)
    for turn in range(number):
        fill = source.randrange(1, source.choice((5, 20, 61)))
        lay = min(60, max(1, fill + source.randrange(-2, 20)))
        farthest = source.choice((10, 60, 120))
        ways = [source.randrange(farthest + 1) for load in range(source.randrange(1, 21))]
        keep = min(300, max(ways) + source.randrange(200))
        yield fill, lay, keep, source.randrange(1, 21), ways


class WhatHolds(unittest.TestCase):
    def assert_holds(self, told, starts, sought):
        """starts are rising, minute by minute from 0 on, or so far that none sooner may have a plan;
        sought tells for each start the soonest and the latest minutes of any plan, or None."""
        (can, why, start), by_start = answered(told, starts)
        with_plan = [one for one in starts if sought[one] is not None]
        pairs = pairs_that_tell(*told)
        self.assertEqual(can, [1] if with_plan else [0], told)
        self.assertEqual(why, [-17] if with_plan else pairs[0], told)
        self.assertEqual(bool(pairs), not with_plan, told)
        self.assertEqual(start, [with_plan[0]] if with_plan else [-33], told)
        self.assertEqual(with_plan, starts[len(starts) - len(with_plan):], told)
        for one in starts:
            if sought[one] is None:
                self.assertEqual(by_start[one], [[-33], [-33], [0], [-33], [-33], [-33]], (told, one))
                continue
            for given, minutes in zip(by_start[one][:2], sought[one]):
                self.assertEqual(given, [len(minutes), *minutes], (told, one))
                self.assertTrue(is_plan(*told, one, given[1:]), (told, one))
            self.assert_told_of_soonest(told, one, by_start[one][2:], sought[one][0])

    def assert_told_of_soonest(self, told, start, given, soonest):
        lay, ways = told[1], told[4]
        begun = [start + k * lay for k in range(len(ways))]
        ages = [one - filled for one, filled in zip(begun, soonest)]
        waits = [one - (filled + way) for one, filled, way in zip(begun, soonest, ways)]
        self.assertEqual(given, [[1], [len(ages), *ages], [len(waits), *waits], [begun[-1] + lay]], (told, start))

    def assert_holds_for_all_plans(self, told):
        fill, ways = told[0], told[4]
        starts = list(range(len(ways) * fill + max(ways) + 4))
        sought = {}
        for start in starts:
            plans = all_plans(*told, start)
            columns = list(zip(*plans))
            sought[start] = ([min(c) for c in columns], [max(c) for c in columns]) if plans else None
            # The quicker search, which other tests go by, finds the same.
            self.assertEqual(first_plan(*told, start), sought[start] and sought[start][0], (told, start))
        self.assert_holds(told, starts, sought)

    def test_every_small_job(self):
        for told in small_jobs():
            self.assert_holds_for_all_plans(told)

    def test_somewhat_longer_jobs(self):
        for told in somewhat_longer_jobs(250):
            self.assert_holds_for_all_plans(told)

    def test_great_jobs(self):
        both = [0, 0]
        for told in great_jobs(150):
            fill, ways = told[0], told[4]
            # Filling all at once, then driving the longest way, every load is there: no plan needs a later start.
            latest_needed = len(ways) * fill + max(ways)
            first = next((s for s in range(latest_needed + 1) if minutes_of_plans(*told, s) is not None), None)
            starts = [max(0, (first or 0) - 1), (first or 0), (first or 0) + 1, (first or 0) + 77, 5000]
            starts = sorted(set(starts))
            sought = {}
            for start in starts:
                minutes = minutes_of_plans(*told, start)
                sought[start] = minutes and ([m[0] for m in minutes], [m[-1] for m in minutes])
            self.assert_holds(told, starts, sought)
            both[first is None] += 1
        self.assertGreater(min(both), 20, both)


# Which of the numbers told (fill, lay, keep, lorries) the call asks for, from where to where, and whether it is
# the least or the greatest of them by which it can be.
LIMITS = (
    ("fewest", 3, range(1, 21), min), ("leastlay", 1, range(1, 61), min),
    ("leastkeep", 2, range(301), min), ("mostfill", 0, range(1, 61), max),
)


def with_number(told, place, number):
    return (*told[:place], number, *told[place + 1:])


def with_longer_way(told, k, more):
    ways = list(told[4])
    ways[k] += more
    return (*told[:4], ways)


class HowFarItGoes(unittest.TestCase):
    """What holds, d; and the same for the paver's time, keeping, the plant's time and each way."""

    def assert_limit(self, told, name, place, numbers, utmost):
        can = [number for number in numbers if plan_there_is(*with_number(told, place, number))]
        self.assertEqual(ask(job(*told), name), [utmost(can)] if can else [-33], (name, told))
        # More lorries, a slower paver, longer keeping, a quicker plant never harm.
        rest = range(can[0], numbers[-1] + 1) if utmost is min and can else range(1, len(can) + 1)
        self.assertEqual(can, list(rest), (name, told))

    def assert_limit_by_some(self, told, name, place, numbers, utmost, source):
        """For jobs so great that not all numbers can be sought: the edges, those next to it, and some others."""
        given = ask(job(*told), name)[0]
        some = {numbers[0], numbers[-1], given - 1, given, given + 1, *source.sample(numbers, 4)}
        for number in some & set(numbers):
            done = given != -33 and (number >= given if utmost is min else number <= given)
            self.assertEqual(plan_there_is(*with_number(told, place, number)), done, (name, told, number))

    def assert_spare(self, told, k, source):
        given = ask(job(*told), "spare", k)[0]
        if not plan_there_is(*told):
            self.assertEqual(given, -33, (told, k))
            return
        for more in {0, 1, 300, given - 1, given, given + 1, *source.sample(range(301), 3)} & set(range(301)):
            self.assertEqual(plan_there_is(*with_longer_way(told, k, more)), more <= given, (told, k, more))

    def assert_whole_spare(self, told, k):
        can = [more for more in range(301) if plan_there_is(*with_longer_way(told, k, more))]
        self.assertEqual(can, list(range(len(can))), (told, k))
        self.assertEqual(ask(job(*told), "spare", k), [can[-1]] if can else [-33], (told, k))

    def test_every_number_for_small_jobs(self):
        drawn = list(small_jobs())
        for told in [*random.Random(3).sample(drawn, 60), *somewhat_longer_jobs(60)]:
            for name, place, numbers, utmost in LIMITS:
                self.assert_limit(told, name, place, numbers, utmost)
            for k in range(len(told[4])):
                self.assert_whole_spare(told, k)

    def test_every_number_of_lorries_for_great_jobs(self):
        for told in great_jobs(200):
            self.assert_limit(told, *LIMITS[0])

    def test_some_numbers_for_great_jobs(self):
        source = random.Random(7)
        for told in great_jobs(200):
            for limit in LIMITS[1:]:
                self.assert_limit_by_some(told, *limit, source)
            k = source.randrange(len(told[4]))
            self.assert_spare(told, k, source)


if __name__ == "__main__":
    unittest.main()
