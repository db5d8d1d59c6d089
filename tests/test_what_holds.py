"""What holds (a, b, c), against a plain search for plans as the document defines them."""

import itertools
import random
import unittest

from pavedloads.loads import answers
from tests.helper import all_plans, call, is_plan, job, minutes_of_plans, pairs_that_tell, split


def answered(told, starts):
    """can, why, start, and for each start what soonest and latest answer; the list stays as it was."""
    calls = job(*told) + [call("can"), call("why"), call("start")]
    for start in starts:
        calls += [call("soonest", start), call("latest", start)]
    flat = [number for one in calls for number in one]
    before = list(flat)
    parts = split(answers(flat))
    assert flat == before
    parts = parts[2 + len(told[4]):]
    return parts[:3], {start: parts[3 + 2 * at:5 + 2 * at] for at, start in enumerate(starts)}


def small_jobs():
    for number in (1, 2, 3):
        for ways in itertools.product(range(3), repeat=number):
            for fill, lay, keep in itertools.product((1, 2, 3), (1, 2, 4), (0, 1, 2, 4)):
                for fleet in range(1, number + 2):
                    yield fill, lay, keep, fleet, list(ways)


def somewhat_longer_jobs(number):
    source = random.Random(20)
    for turn in range(number):
        ways = [source.randrange(4) for load in range(source.randrange(4, 6))]
        yield source.randrange(1, 4), source.randrange(1, 6), source.randrange(6), source.randrange(1, 6), ways


def great_jobs(number):
    source = random.Random(5000)
    for turn in range(number):
        fill = source.randrange(1, source.choice((5, 20, 61)))
        lay = min(60, max(1, fill + source.randrange(-2, 20)))
        farthest = source.choice((10, 60, 120))
        ways = [source.randrange(farthest + 1) for load in range(source.randrange(1, 21))]
        keep = min(300, max(ways) + source.randrange(200))
        yield fill, lay, keep, source.randrange(1, 21), ways


class WhatHolds(unittest.TestCase):
    def assert_holds(self, told, starts, sought):
        """starts are rising, minute by minute from 0 on, or so far that none sooner may have a plan;
        sought tells for each start the soonest and the latest minutes of any plan, or None."""
        (can, why, start), by_start = answered(told, starts)
        with_plan = [one for one in starts if sought[one] is not None]
        pairs = pairs_that_tell(*told)
        self.assertEqual(can, [1] if with_plan else [0], told)
        self.assertEqual(why, [-17] if with_plan else pairs[0], told)
        self.assertEqual(bool(pairs), not with_plan, told)
        self.assertEqual(start, [with_plan[0]] if with_plan else [-33], told)
        self.assertEqual(with_plan, starts[len(starts) - len(with_plan):], told)
        for one in starts:
            if sought[one] is None:
                self.assertEqual(by_start[one], [[-33], [-33]], (told, one))
                continue
            for given, minutes in zip(by_start[one], sought[one]):
                self.assertEqual(given, [len(minutes), *minutes], (told, one))
                self.assertTrue(is_plan(*told, one, given[1:]), (told, one))

    def assert_holds_for_all_plans(self, told):
        fill, ways = told[0], told[4]
        starts = list(range(len(ways) * fill + max(ways) + 4))
        sought = {}
        for start in starts:
            plans = all_plans(*told, start)
            columns = list(zip(*plans))
            sought[start] = ([min(c) for c in columns], [max(c) for c in columns]) if plans else None
        self.assert_holds(told, starts, sought)

    def test_every_small_job(self):
        for told in small_jobs():
            self.assert_holds_for_all_plans(told)

    def test_somewhat_longer_jobs(self):
        for told in somewhat_longer_jobs(250):
            self.assert_holds_for_all_plans(told)

    def test_great_jobs(self):
        both = [0, 0]
        for told in great_jobs(150):
            fill, ways = told[0], told[4]
            # Filling all at once, then driving the longest way, every load is there: no plan needs a later start.
            latest_needed = len(ways) * fill + max(ways)
            first = next((s for s in range(latest_needed + 1) if minutes_of_plans(*told, s) is not None), None)
            starts = [max(0, (first or 0) - 1), (first or 0), (first or 0) + 1, (first or 0) + 77, 5000]
            starts = sorted(set(starts))
            sought = {}
            for start in starts:
                minutes = minutes_of_plans(*told, start)
                sought[start] = minutes and ([m[0] for m in minutes], [m[-1] for m in minutes])
            self.assert_holds(told, starts, sought)
            both[first is None] += 1
        self.assertGreater(min(both), 20, both)


if __name__ == "__main__":
    unittest.main()
