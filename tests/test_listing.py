"""Tour of point 3, drives and state of point 4; and that looking, and what's refused, changes nothing."""

import unittest

from tests.helper import GREATEST, ask, call, job, look, run

BEGUN = [call("begin", 5, 10, 30)]
CAN = job(5, 25, 30, 2, [10, 10, 10])
CANNOT = job(7, 9, 100, 1, [10, 20, 30])
FULL = job(60, 60, 300, 6, [120] * 20)
JOBS = (BEGUN, job(5, 10, 30, 1, [10]), CAN, CANNOT, FULL)

STARTS = (0, 15, 180, 5000, 5001, GREATEST)
ROWS = ([], [5], [5, 10, 55], [60 + 60 * k for k in range(20)], [65535] * 30)
LOOKING = [
    *[(name,) for name in ("can", "why", "start", "fewest", "leastlay", "leastkeep", "mostfill", "drives", "state")],
    *[(name, start) for name in ("soonest", "latest", "ages", "waits", "ifstart", "ends") for start in STARTS],
    *[("tried", start, row) for start in STARTS for row in ROWS],
    *[(name, number) for name in ("spare", "tour") for number in (0, 1, 2, 3, 19, 20, GREATEST)],
]
REFUSED = [
    ("begin", 0, 1, 1), ("begin", 1, 61, 1), ("begin", 1, 1, 301), ("load", 121), ("load", GREATEST),
    ("drive", 20, 5), ("drive", GREATEST, 5), ("drive", 0, 121), ("lorries", 0), ("lorries", 21),
    ("filling", 0), ("filling", 61), ("laying", 0), ("laying", 61), ("keeping", 301), ("keeping", GREATEST),
]


class Tour(unittest.TestCase):
    def assert_tours(self, calls, tours):
        for lorry, loads in enumerate(tours):
            self.assertEqual(ask(calls, "tour", lorry), [len(loads), *loads], lorry)
        for lorry in (len(tours), len(tours) + 1, GREATEST):
            self.assertEqual(ask(calls, "tour", lorry), [-2], lorry)

    def test_without_loads(self):
        self.assert_tours(BEGUN, [[]])
        self.assert_tours(job(5, 10, 30, 20, []), [[]] * 20)

    def test_one_load(self):
        self.assert_tours(job(5, 10, 30, 1, [10]), [[0]])
        self.assert_tours(job(5, 10, 30, 2, [10]), [[0], []])

    def test_fewer_lorries_than_loads(self):
        self.assert_tours(CAN, [[0, 2], [1]])
        self.assert_tours(job(5, 10, 30, 3, [10] * 7), [[0, 3, 6], [1, 4], [2, 5]])

    def test_as_many_and_more(self):
        self.assert_tours(job(5, 10, 30, 3, [10] * 3), [[0], [1], [2]])
        self.assert_tours(job(5, 10, 30, 5, [10] * 3), [[0], [1], [2], [], []])

    def test_20_loads(self):
        self.assert_tours(job(5, 10, 30, 1, [1] * 20), [list(range(20))])
        self.assert_tours(job(5, 10, 30, 19, [1] * 20), [[0, 19], *[[k] for k in range(1, 19)]])
        self.assert_tours(job(5, 10, 30, 20, [1] * 20), [[k] for k in range(20)])

    def test_also_if_it_cannot_be(self):
        self.assert_tours(CANNOT, [[0, 1, 2]])

    def test_it_goes_with_what_is_told(self):
        self.assert_tours([*CAN, call("less")], [[0], [1]])
        self.assert_tours([*CAN, call("lorries", 3)], [[0], [1], [2]])
        self.assert_tours([*CAN, call("begin", 1, 1, 0)], [[]])


class Told(unittest.TestCase):
    def assert_told(self, calls, times, ways):
        self.assertEqual(ask(calls, "state"), [0, *times, len(ways)])
        self.assertEqual(ask(calls, "drives"), [len(ways), *ways])

    def test_behind_a_begin(self):
        self.assert_told(BEGUN, [5, 10, 30, 1], [])
        self.assert_told([call("begin", 1, 60, 0)], [1, 60, 0, 1], [])
        self.assert_told([call("begin", 60, 1, 300)], [60, 1, 300, 1], [])

    def test_a_job(self):
        self.assert_told(CAN, [5, 25, 30, 2], [10, 10, 10])
        self.assert_told(CANNOT, [7, 9, 100, 1], [10, 20, 30])
        self.assert_told(job(5, 10, 30, 20, [0]), [5, 10, 30, 20], [0])
        self.assert_told(job(5, 10, 30, 20, list(range(20))), [5, 10, 30, 20], list(range(20)))

    def test_what_was_told_last(self):
        self.assert_told([*CANNOT, call("load", 120)], [7, 9, 100, 1], [10, 20, 30, 120])
        self.assert_told([*CANNOT, call("drive", 1, 0)], [7, 9, 100, 1], [10, 0, 30])
        self.assert_told([*CANNOT, call("less")], [7, 9, 100, 1], [10, 20])
        self.assert_told([*CANNOT, call("lorries", 20)], [7, 9, 100, 20], [10, 20, 30])
        self.assert_told([*CANNOT, call("filling", 60)], [60, 9, 100, 1], [10, 20, 30])
        self.assert_told([*CANNOT, call("laying", 60)], [7, 60, 100, 1], [10, 20, 30])
        self.assert_told([*CANNOT, call("keeping", 300)], [7, 9, 300, 1], [10, 20, 30])
        self.assert_told([*CANNOT, call("begin", 5, 10, 30)], [5, 10, 30, 1], [])


class NothingIsChanged(unittest.TestCase):
    def assert_nothing_changed(self, calls, one):
        both = [call("state"), call("drives")]
        given = run([*calls, *both, one, *both])
        self.assertEqual(given[-5:-3], given[-2:], one)
        self.assertEqual(look([*calls, one]), look(calls), one)

    def test_by_looking(self):
        for calls in JOBS:
            for one in LOOKING:
                self.assert_nothing_changed(calls, call(*one))

    def test_by_what_is_refused(self):
        for calls in JOBS:
            for one in REFUSED:
                self.assertLess(ask(calls, *one)[0], 0, one)
                self.assert_nothing_changed(calls, call(*one))

    def test_by_what_only_some_refuse(self):
        for calls, one in ((BEGUN, ("less",)), (FULL, ("load", 5)), (BEGUN, ("drive", 0, 5))):
            self.assertLess(ask(calls, *one)[0], 0, one)
            self.assert_nothing_changed(calls, call(*one))

    def test_all_looks_one_behind_another_answer_as_each_alone(self):
        for calls in JOBS:
            alone = [ask(calls, *one) for one in LOOKING]
            together = run([*calls, *[call(*one) for one in LOOKING * 2]])[len(calls):]
            self.assertEqual(together, alone * 2)


if __name__ == "__main__":
    unittest.main()
