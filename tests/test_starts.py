"""Point 2, the rest: ifstart, ages, waits, ends and try, in cases reckoned by hand."""

import unittest

from tests.helper import GREATEST, ask, call, first_plan, is_plan, job, run

NO_LOADS = (5, 10, 30, 2, [])
ONE_LOAD = (5, 10, 30, 1, [10])
JUST_BACK = (5, 25, 30, 2, [10, 10, 10])
AS_MANY = (5, 25, 30, 3, [10, 10, 10])
MORE = (5, 25, 30, 20, [10, 10, 10])
LONG = (60, 60, 300, 6, [120] * 20)
ONE_FAR = (5, 10, 120, 20, [0, 0, 120, 0, 0])
TOO_OLD = (5, 10, 9, 1, [10])
TOO_FEW = (5, 24, 30, 2, [10, 10, 10])
SOONEST = ((ONE_LOAD, 15), (JUST_BACK, 15), (AS_MANY, 15), (MORE, 15), (LONG, 180), (ONE_FAR, 115))


class Starts(unittest.TestCase):
    def assert_tells(self, told, start, numbers, *names):
        for name in names:
            self.assertEqual(ask(job(*told), name, start), numbers, (name, told, start))


class IfStart(Starts):
    def test_from_the_soonest_start_on(self):
        for told, soonest in SOONEST:
            for start in (0, 1, soonest - 1):
                self.assert_tells(told, start, [0], "ifstart")
            for start in (soonest, soonest + 1, 4999, 5000):
                self.assert_tells(told, start, [1], "ifstart")

    def test_never_if_it_cannot_be(self):
        for told in (TOO_OLD, TOO_FEW):
            for start in (0, 15, 60, 5000):
                self.assert_tells(told, start, [0], "ifstart")

    def test_always_without_loads(self):
        for start in (0, 1, 5000):
            self.assert_tells(NO_LOADS, start, [1], "ifstart")

    def test_out_of_range(self):
        for told in (NO_LOADS, ONE_LOAD, LONG, TOO_OLD, TOO_FEW):
            for start in (5001, GREATEST):
                self.assert_tells(told, start, [-22], "ifstart")


class Refused(Starts):
    NAMES = ("ages", "waits", "ends")

    def test_no_plan_with_that_start(self):
        for told, soonest in SOONEST:
            for start in (0, 1, soonest - 1):
                self.assert_tells(told, start, [-33], *self.NAMES)

    def test_it_cannot_be(self):
        for told in (TOO_OLD, TOO_FEW):
            for start in (0, 15, 60, 5000):
                self.assert_tells(told, start, [-33], *self.NAMES)

    def test_out_of_range_is_told_first(self):
        for told in (NO_LOADS, ONE_LOAD, LONG, TOO_OLD, TOO_FEW):
            for start in (5001, GREATEST):
                self.assert_tells(told, start, [-22], *self.NAMES)


class Ages(Starts):
    def assert_old(self, told, start, ages, waits):
        self.assert_tells(told, start, [len(ages), *ages], "ages")
        self.assert_tells(told, start, [len(waits), *waits], "waits")
        # The same from the plan that soonest tells, and from one sought by trying minutes.
        told_soonest = ask(job(*told), "soonest", start)[1:]
        for plan in (told_soonest, first_plan(*told, start)):
            self.assertEqual([start + k * told[1] - filled for k, filled in enumerate(plan)], ages)
            there = [filled + way for filled, way in zip(plan, told[4])]
            self.assertEqual([start + k * told[1] - one for k, one in enumerate(there)], waits)

    def test_without_loads(self):
        for start in (0, 5000):
            self.assert_old(NO_LOADS, start, [], [])

    def test_one_load(self):
        self.assert_old(ONE_LOAD, 15, [10], [0])
        self.assert_old(ONE_LOAD, 16, [11], [1])
        self.assert_old(ONE_LOAD, 35, [30], [20])
        self.assert_old(ONE_LOAD, 36, [30], [20])
        self.assert_old(ONE_LOAD, 5000, [30], [20])

    def test_a_way_of_0(self):
        self.assert_old((1, 1, 0, 1, [0]), 1, [0], [0])
        self.assert_old((1, 1, 0, 1, [0]), 5000, [0], [0])
        self.assert_old((1, 1, 7, 1, [0]), 5000, [7], [7])

    def test_a_load_that_just_keeps(self):
        self.assert_old((5, 10, 10, 1, [10]), 15, [10], [0])
        self.assert_old((5, 10, 10, 1, [10]), 99, [10], [0])

    def test_fewer_lorries_than_loads(self):
        self.assert_old(JUST_BACK, 15, [10, 30, 10], [0, 20, 0])
        self.assert_old(JUST_BACK, 5000, [30, 30, 10], [20, 20, 0])

    def test_as_many_lorries_and_more(self):
        for told in (AS_MANY, MORE):
            self.assert_old(told, 15, [10, 30, 30], [0, 20, 20])
            self.assert_old(told, 5000, [30, 30, 30], [20, 20, 20])

    def test_ways_of_many_lengths(self):
        self.assert_old(ONE_FAR, 115, [110, 115, 120, 120, 120], [110, 115, 0, 120, 120])
        self.assert_old((5, 10, 40, 20, [3, 30, 0]), 35, [30, 35, 40], [27, 5, 40])

    def test_a_plant_slower_than_the_paver(self):
        told = (10, 5, 20, 20, [0] * 5)
        self.assert_old(told, 30, [20, 15, 10, 5, 0], [20, 15, 10, 5, 0])

    def test_20_loads(self):
        self.assert_old(LONG, 180, [120] * 20, [0] * 20)
        self.assert_old(LONG, 5000, [300] + [300] * 5 + [120] * 14, [180] * 6 + [0] * 14)


class Ends(Starts):
    def test_without_loads(self):
        for start in (0, 1, 5000):
            self.assert_tells(NO_LOADS, start, [start], "ends")

    def test_when_the_last_load_is_laid(self):
        self.assert_tells(ONE_LOAD, 15, [25], "ends")
        self.assert_tells(ONE_LOAD, 5000, [5010], "ends")
        for told in (JUST_BACK, AS_MANY, MORE):
            self.assert_tells(told, 15, [90], "ends")
            self.assert_tells(told, 5000, [5075], "ends")
        self.assert_tells(LONG, 180, [1380], "ends")
        self.assert_tells(LONG, 5000, [6200], "ends")


def broken(fill, lay, keep, fleet, ways, start, filled):
    """What a plan asks that this list doesn't do, by name, each load by itself."""
    things = []
    for k, way in enumerate(ways):
        begun = start + k * lay
        if filled[k] < fill:
            things.append("ahead of minute 0")
        if k > 0 and filled[k] - fill < filled[k - 1]:
            things.append("too soon")
        if k >= fleet and filled[k] - fill < start + (k - fleet + 1) * lay + ways[k - fleet]:
            things.append("not back")
        if filled[k] + way > begun:
            things.append("too late")
        if begun - filled[k] > keep:
            things.append("too old")
    return things


class Tried(Starts):
    # The paver begins the loads at 20, 50, 80; lorry 0 is back at 60.
    ROOMY = (5, 30, 30, 2, [10, 10, 10])
    # The plant is the only one to hold them back: begun at 40, 50, 60.
    CLOSE = (5, 10, 30, 20, [10, 10, 10])

    def tried(self, told, start, filled):
        return ask(job(*told), "tried", start, filled)

    def assert_plan(self, told, start, filled):
        self.assertEqual(broken(*told, start, filled), [])
        self.assertEqual(self.tried(told, start, filled), [1], (told, start, filled))

    def assert_breaks(self, told, start, filled, k, minute, thing):
        """A plan; with load k filled at that minute, one from where it was, it breaks just that thing."""
        self.assertEqual(abs(filled[k] - minute), 1)
        self.assert_plan(told, start, filled)
        other = [*filled[:k], minute, *filled[k + 1:]]
        self.assertEqual(broken(*told, start, other), [thing])
        self.assertEqual(self.tried(told, start, other), [0], (told, start, other))

    def test_a_plan(self):
        self.assert_plan(self.ROOMY, 20, [8, 30, 67])
        self.assert_plan(self.CLOSE, 40, [11, 29, 50])
        self.assert_plan(JUST_BACK, 15, [5, 17, 55])

    def test_a_minute_too_soon_behind_the_load_ahead(self):
        self.assert_breaks(self.CLOSE, 40, [20, 25, 40], 1, 24, "too soon")
        self.assert_breaks(self.CLOSE, 40, [20, 25, 40], 0, 21, "too soon")
        self.assert_breaks(self.CLOSE, 40, [20, 35, 40], 2, 39, "too soon")
        self.assert_breaks(self.CLOSE, 40, [20, 35, 40], 1, 36, "too soon")

    def test_ahead_of_minute_0(self):
        self.assert_breaks(self.ROOMY, 20, [5, 30, 67], 0, 4, "ahead of minute 0")
        self.assert_breaks((5, 10, 30, 1, [10]), 20, [5], 0, 4, "ahead of minute 0")
        self.assert_breaks((1, 1, 300, 1, [0]), 20, [1], 0, 0, "ahead of minute 0")

    def test_before_its_lorry_is_back(self):
        self.assert_breaks(self.ROOMY, 20, [8, 30, 65], 2, 64, "not back")
        self.assert_breaks((5, 25, 30, 2, [10] * 4), 15, [5, 10, 55, 80], 3, 79, "not back")
        self.assert_breaks((5, 30, 300, 3, [10, 40, 10, 5, 10]), 100, [5, 20, 40, 145, 205], 4, 204, "not back")

    def test_there_too_late(self):
        self.assert_breaks(self.ROOMY, 20, [10, 30, 67], 0, 11, "too late")
        self.assert_breaks(self.ROOMY, 20, [8, 40, 67], 1, 41, "too late")
        self.assert_breaks(self.ROOMY, 20, [8, 30, 70], 2, 71, "too late")
        self.assert_breaks((1, 1, 300, 1, [0]), 20, [20], 0, 21, "too late")

    def test_too_old(self):
        self.assert_breaks(self.ROOMY, 20, [8, 20, 67], 1, 19, "too old")
        self.assert_breaks((5, 10, 10, 1, [0]), 50, [40], 0, 39, "too old")
        self.assert_breaks(self.CLOSE, 40, [10, 20, 30], 0, 9, "too old")
        self.assert_breaks(self.CLOSE, 40, [10, 20, 30], 2, 29, "too old")

    def test_a_minute_off_the_start(self):
        self.assertEqual(self.tried(JUST_BACK, 15, [5, 10, 55]), [1])
        self.assertEqual(self.tried(JUST_BACK, 14, [5, 10, 55]), [0])
        self.assertEqual(self.tried(JUST_BACK, 16, [5, 10, 55]), [0])

    def test_what_soonest_and_latest_tell(self):
        for told, soonest in SOONEST:
            for start in (soonest, soonest + 1, soonest + 9, 5000):
                for name in ("soonest", "latest"):
                    filled = ask(job(*told), name, start)[1:]
                    self.assert_plan(told, start, filled)

    def test_a_minute_beside_what_soonest_and_latest_tell(self):
        for told, soonest in SOONEST:
            for start in (soonest, 5000):
                for name, beside in (("soonest", -1), ("latest", 1)):
                    filled = ask(job(*told), name, start)[1:]
                    for k in range(len(filled)):
                        other = [*filled[:k], filled[k] + beside, *filled[k + 1:]]
                        self.assertEqual(self.tried(told, start, other), [0], (told, start, other))

    def test_it_is_not_a_number_for_each_load(self):
        plan = [8, 30, 67]
        for row in ([], [8], [8, 30], [8, 30, 67, 100], [*plan, *plan], [0] * 29000):
            self.assertEqual(self.tried(self.ROOMY, 20, row), [-22], len(row))
        self.assertEqual(self.tried(LONG, 180, [60 + 60 * k for k in range(19)]), [-22])
        self.assertEqual(self.tried(LONG, 180, [60 + 60 * k for k in range(20)]), [1])
        self.assertEqual(self.tried(LONG, 180, [60 + 60 * k for k in range(21)]), [-22])

    def test_out_of_range_also_if_it_cannot_be(self):
        self.assertEqual(self.tried(TOO_OLD, 15, []), [-22])
        self.assertEqual(self.tried(TOO_OLD, 15, [5, 5]), [-22])
        self.assertEqual(self.tried(TOO_OLD, 5001, [5]), [-22])

    def test_no_list_is_a_plan_if_it_cannot_be(self):
        for start in range(40):
            for minute in range(60):
                self.assertEqual(self.tried(TOO_OLD, start, [minute]), [0])

    def test_starts(self):
        self.assertEqual(self.tried(ONE_LOAD, 0, [5]), [0])
        self.assertEqual(self.tried(ONE_LOAD, 5000, [4980]), [1])
        for start in (5001, GREATEST):
            for row in ([4980], [], [1, 2]):
                self.assertEqual(self.tried(ONE_LOAD, start, row), [-22])

    def test_without_loads(self):
        for start in (0, 7, 5000):
            self.assertEqual(self.tried(NO_LOADS, start, []), [1])
            self.assertEqual(self.tried(NO_LOADS, start, [0]), [-22])
        for start in (5001, GREATEST):
            self.assertEqual(self.tried(NO_LOADS, start, []), [-22])

    def test_the_least_and_the_greatest_numbers(self):
        for start in (0, 20, 5000):
            for row in ([0, 0, 0], [65535] * 3, [8, 30, 65535], [0, 30, 67]):
                self.assertEqual(self.tried(self.ROOMY, start, row), [0])

    def test_every_list_of_some_minutes(self):
        for told, start in (((2, 5, 4, 2, [1, 2, 0]), 6), ((2, 3, 6, 20, [1, 2]), 4), ((3, 2, 5, 20, [0, 1]), 6)):
            span = range(start + 2 * told[1] + 2)
            lists = [[]]
            for load in told[4]:
                lists = [[*one, minute] for one in lists for minute in span]
            plans = 0
            for at in range(0, len(lists), 200):
                some = lists[at:at + 200]
                given = run([*job(*told), *[call("tried", start, one) for one in some]])[-len(some):]
                sought = [[int(is_plan(*told, start, one))] for one in some]
                self.assertEqual(given, sought)
                plans += sought.count([1])
            self.assertGreater(plans, 2)


if __name__ == "__main__":
    unittest.main()
