"""Point 1: begin, load, drive, less, lorries, filling, laying, keeping."""

import unittest

from tests.helper import GREATEST, ask, call, job, last, loads, look, run

BEGUN = [call("begin", 5, 10, 30)]
JOB = job(7, 9, 100, 3, [10, 20, 30])
FULL = job(7, 9, 100, 3, list(range(20)))


class Telling(unittest.TestCase):
    def assert_refused(self, calls, one, refusal):
        """It is refused by that number alone, and nothing that can be looked at is another."""
        self.assertEqual(ask(calls, *one), [refusal], one)
        self.assertEqual(look([*calls, call(*one)]), look(calls), one)


class Begin(Telling):
    def test_each_edge(self):
        for fill in (0, 1, 60, 61, GREATEST):
            for lay in (0, 1, 60, 61, GREATEST):
                for keep in (0, 300, 301, GREATEST):
                    good = 1 <= fill <= 60 and 1 <= lay <= 60 and keep <= 300
                    with self.subTest(fill=fill, lay=lay, keep=keep):
                        self.assertEqual(last([call("begin", fill, lay, keep)]), [0 if good else -22])

    def test_so_it_is(self):
        for fill, lay, keep in ((5, 10, 30), (1, 60, 0), (60, 1, 300)):
            with self.subTest(fill=fill, lay=lay, keep=keep):
                begun = [call("begin", fill, lay, keep)]
                self.assertEqual(ask(begun, "filling", 2), [fill])
                self.assertEqual(ask(begun, "laying", 2), [lay])
                self.assertEqual(ask(begun, "keeping", 2), [keep])
                self.assertEqual(ask(begun, "lorries", 2), [1])
                self.assertEqual(ask(begun, "less"), [-6])

    def test_refused_it_changes_nothing(self):
        for told in ((0, 2, 3), (61, 2, 3), (2, 0, 3), (2, 61, 3), (2, 2, 301), (0, 0, 301)):
            self.assert_refused(JOB, ("begin", *told), -22)


class Load(Telling):
    def test_its_number(self):
        self.assertEqual(run([*BEGUN, *loads([10, 0, 120])]), [[0], [0], [1], [2]])

    def test_so_far_it_is(self):
        calls = [*BEGUN, *loads([10, 0, 120])]
        for k, way in enumerate((10, 0, 120)):
            self.assertEqual(ask(calls, "drive", k, 5), [way])

    def test_too_far(self):
        for way in (121, GREATEST):
            self.assert_refused(BEGUN, ("load", way), -22)
            self.assert_refused(JOB, ("load", way), -22)

    def test_20_and_one_more(self):
        self.assertEqual(run(FULL)[-1], [19])
        self.assert_refused(FULL, ("load", 0), -28)
        self.assert_refused(FULL, ("load", 120), -28)

    def test_too_far_is_told_ahead_of_too_many(self):
        self.assert_refused(FULL, ("load", 121), -22)
        self.assert_refused(FULL, ("load", GREATEST), -22)

    def test_room_again_behind_less(self):
        self.assertEqual(run([*FULL, call("less"), call("load", 3), call("load", 3)])[-3:], [[19], [19], [-28]])


class Drive(Telling):
    def test_how_far_it_was(self):
        calls = [*JOB, call("drive", 1, 0), call("drive", 1, 120), call("drive", 1, 7)]
        self.assertEqual(run(calls)[-3:], [[20], [0], [120]])

    def test_that_load_alone(self):
        calls = [*JOB, call("drive", 1, 44)]
        self.assertEqual(run([*calls, *[call("drive", k, 0) for k in range(3)]])[-3:], [[10], [44], [30]])

    def test_no_such_load(self):
        for k in (3, 4, 20, GREATEST):
            self.assert_refused(JOB, ("drive", k, 5), -2)
        self.assert_refused(BEGUN, ("drive", 0, 5), -2)
        self.assert_refused(FULL, ("drive", 20, 5), -2)

    def test_the_last_load_there_is(self):
        self.assertEqual(ask(FULL, "drive", 19, 120), [19])

    def test_too_far(self):
        for way in (121, GREATEST):
            self.assert_refused(JOB, ("drive", 2, way), -22)

    def test_no_such_load_is_told_ahead_of_too_far(self):
        for k in (3, GREATEST):
            for way in (121, GREATEST):
                self.assert_refused(JOB, ("drive", k, way), -2)


class Less(Telling):
    def test_how_many_there_are(self):
        self.assertEqual(run([*JOB, *[call("less")] * 4])[-4:], [[2], [1], [0], [-6]])

    def test_the_last_one_is_gone(self):
        calls = [*JOB, call("less")]
        self.assertEqual(look(calls), look(job(7, 9, 100, 3, [10, 20])))

    def test_no_loads(self):
        self.assert_refused(BEGUN, ("less",), -6)
        self.assert_refused(job(7, 9, 100, 3, []), ("less",), -6)


class Times(Telling):
    def edges(self, name, before, good, bad):
        for told in good:
            with self.subTest(told=told):
                self.assertEqual(ask(JOB, name, told), [before])
                self.assertEqual(ask([*JOB, call(name, told)], name, good[0]), [told])
        for told in bad:
            with self.subTest(told=told):
                self.assert_refused(JOB, (name, told), -22)

    def test_lorries(self):
        self.edges("lorries", 3, (1, 2, 19, 20), (0, 21, GREATEST))

    def test_filling(self):
        self.edges("filling", 7, (1, 2, 59, 60), (0, 61, GREATEST))

    def test_laying(self):
        self.edges("laying", 9, (1, 2, 59, 60), (0, 61, GREATEST))

    def test_keeping(self):
        self.edges("keeping", 100, (0, 1, 299, 300), (301, GREATEST))

    def test_nothing_else_is_another_then(self):
        self.assertEqual(look([*JOB, call("lorries", 4)]), look(job(7, 9, 100, 4, [10, 20, 30])))
        self.assertEqual(look([*JOB, call("filling", 4)]), look(job(4, 9, 100, 3, [10, 20, 30])))
        self.assertEqual(look([*JOB, call("laying", 4)]), look(job(7, 4, 100, 3, [10, 20, 30])))
        self.assertEqual(look([*JOB, call("keeping", 4)]), look(job(7, 9, 4, 3, [10, 20, 30])))

    def test_each_time_as_it_was_told_last(self):
        calls = [*BEGUN, call("lorries", 2), call("lorries", 0), call("lorries", 20), call("lorries", 20)]
        self.assertEqual(run(calls)[1:], [[1], [-22], [2], [20]])


if __name__ == "__main__":
    unittest.main()
