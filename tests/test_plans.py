"""Point 2: can, why, start, soonest and latest, in cases reckoned by hand."""

import unittest

from tests.helper import GREATEST, ask, call, job, look, run


class Plans(unittest.TestCase):
    def assert_can(self, told, start, soonest, latest):
        """It can be, from that start on; when each is filled then; and a minute sooner it can't."""
        self.assertEqual(ask(told, "can"), [1])
        self.assertEqual(ask(told, "why"), [-17])
        self.assertEqual(ask(told, "start"), [start])
        self.assert_filled(told, start, soonest, latest)
        if start > 0:
            self.assertEqual(ask(told, "soonest", start - 1), [-33])
            self.assertEqual(ask(told, "latest", start - 1), [-33])

    def assert_filled(self, told, start, soonest, latest):
        self.assertEqual(ask(told, "soonest", start), [len(soonest), *soonest])
        self.assertEqual(ask(told, "latest", start), [len(latest), *latest])

    def assert_cannot(self, told, why):
        self.assertEqual(ask(told, "can"), [0])
        self.assertEqual(ask(told, "why"), why)
        self.assertEqual(ask(told, "start"), [-33])
        for start in (0, 1, 60, 4999, 5000):
            self.assertEqual(ask(told, "soonest", start), [-33])
            self.assertEqual(ask(told, "latest", start), [-33])
        for start in (5001, GREATEST):
            self.assertEqual(ask(told, "soonest", start), [-22])
            self.assertEqual(ask(told, "latest", start), [-22])


class WithoutLoads(Plans):
    def test_none_yet_and_none_any_more(self):
        for told in ([call("begin", 5, 10, 30)], [*job(60, 1, 0, 1, [120]), call("less")]):
            self.assert_can(told, 0, [], [])
            self.assert_filled(told, 5000, [], [])
            self.assertEqual(ask(told, "soonest", 5001), [-22])
            self.assertEqual(ask(told, "latest", 5001), [-22])


class OneLoad(Plans):
    def test_it_is_filled_at_once_and_goes_straight_there(self):
        self.assert_can(job(5, 10, 30, 1, [10]), 15, [5], [5])

    def test_a_later_start_leaves_room(self):
        told = job(5, 10, 30, 1, [10])
        self.assert_filled(told, 16, [5], [6])
        self.assert_filled(told, 35, [5], [25])
        self.assert_filled(told, 36, [6], [26])
        self.assert_filled(told, 5000, [4970], [4990])

    def test_it_just_keeps(self):
        self.assert_can(job(5, 10, 10, 1, [10]), 15, [5], [5])
        self.assert_filled(job(5, 10, 10, 1, [10]), 99, [89], [89])

    def test_a_minute_too_old(self):
        self.assert_cannot(job(5, 10, 9, 1, [10]), [0, 0, 0])

    def test_a_way_of_0(self):
        self.assert_can(job(1, 1, 0, 1, [0]), 1, [1], [1])
        self.assert_can(job(60, 1, 0, 1, [0]), 60, [60], [60])

    def test_the_longest_way_and_the_longest_keeping(self):
        self.assert_can(job(60, 60, 300, 1, [120]), 180, [60], [60])
        self.assert_filled(job(60, 60, 300, 1, [120]), 5000, [4700], [4880])
        self.assert_cannot(job(60, 60, 119, 1, [120]), [0, 0, 0])

    def test_a_start_of_0(self):
        self.assertEqual(ask(job(1, 1, 300, 1, [0]), "soonest", 0), [-33])
        self.assertEqual(ask(job(1, 1, 300, 1, [0]), "latest", 0), [-33])


class Starts(Plans):
    def test_out_of_range(self):
        for told in (job(5, 10, 30, 1, [10]), job(5, 10, 0, 1, [10])):
            for name in ("soonest", "latest"):
                for start in (5001, GREATEST):
                    self.assertEqual(ask(told, name, start), [-22])

    def test_refused_and_looking_changes_nothing(self):
        looks = [("can",), ("why",), ("start",)]
        for start in (0, 14, 15, 5000, 5001, GREATEST):
            looks += [("soonest", start), ("latest", start)]
        for told in (job(5, 25, 30, 2, [10, 10, 10]), job(5, 24, 30, 2, [10, 10, 10]), job(5, 9, 3, 1, [])):
            for one in looks:
                self.assertEqual(look([*told, call(*one)]), look(told))

    def test_looking_sees_what_was_told_last(self):
        told = [*job(5, 10, 30, 1, [10]), call("start"), call("drive", 0, 20), call("start"), call("keeping", 19),
                call("why"), call("keeping", 20), call("filling", 7), call("start"), call("load", 0), call("why"),
                call("lorries", 2), call("start"), call("soonest", 27), call("laying", 3), call("soonest", 27)]
        self.assertEqual(run(told)[3:], [
            [15], [10], [25], [30], [0, 0, 0], [19], [5], [27], [1], [1, 1, 1],
            [1], [27], [2, 7, 17], [10], [2, 7, 14],
        ])


class Lorries(Plans):
    def test_as_many_as_loads(self):
        self.assert_can(job(5, 10, 30, 2, [10, 10]), 15, [5, 10], [5, 15])

    def test_more_than_loads(self):
        for fleet in (3, 19, 20):
            self.assert_can(job(5, 10, 30, fleet, [10, 10]), 15, [5, 10], [5, 15])

    def test_one_lorry_is_never_enough_for_two_loads(self):
        self.assert_cannot(job(5, 10, 30, 1, [10, 10]), [1, 1, 1])
        self.assert_cannot(job(1, 60, 300, 1, [0, 0]), [1, 1, 1])

    def test_just_back(self):
        self.assert_can(job(5, 25, 30, 2, [10, 10, 10]), 15, [5, 10, 55], [5, 30, 55])

    def test_back_a_minute_late(self):
        self.assert_cannot(job(5, 24, 30, 2, [10, 10, 10]), [1, 2, 2])
        self.assert_cannot(job(6, 25, 30, 2, [10, 10, 10]), [1, 2, 2])
        self.assert_cannot(job(5, 25, 30, 2, [11, 10, 10]), [1, 2, 2])
        self.assert_cannot(job(5, 25, 30, 2, [10, 10, 11]), [1, 2, 2])

    def test_the_way_of_another_lorrys_load_is_nothing_to_it(self):
        self.assert_can(job(5, 25, 30, 2, [10, 20, 10]), 15, [5, 10, 55], [5, 20, 55])

    def test_a_later_load_is_late_by_an_earlier_lorry(self):
        self.assert_cannot(job(5, 15, 300, 2, [10, 0, 0, 30]), [1, 2, 3])

    def test_20_loads(self):
        rising = [60 + 60 * k for k in range(20)]
        for fleet in (6, 7, 20):
            self.assert_can(job(60, 60, 300, fleet, [120] * 20), 180, rising, rising)
        self.assert_cannot(job(60, 60, 300, 5, [120] * 20), [1, 5, 5])

    def test_a_lorry_has_every_second_load(self):
        self.assert_can(
            job(5, 25, 300, 2, [10] * 6), 15,
            [5, 10, 55, 80, 105, 130], [5, 30, 55, 80, 105, 130],
        )


class SlowPlant(Plans):
    def test_loads_wait_while_they_keep(self):
        self.assert_can(job(10, 5, 20, 20, [0] * 5), 30, [10, 20, 30, 40, 50], [10, 20, 30, 40, 50])
        self.assert_filled(job(10, 5, 20, 20, [0] * 5), 31, [11, 21, 31, 41, 51], [11, 21, 31, 41, 51])

    def test_one_load_more_than_keeps(self):
        self.assert_cannot(job(10, 5, 20, 20, [0] * 6), [0, 0, 5])

    def test_as_slow_as_the_paver(self):
        self.assert_can(job(5, 5, 0, 2, [0, 0, 0]), 5, [5, 10, 15], [5, 10, 15])
        self.assert_cannot(job(6, 5, 0, 2, [0, 0, 0]), [0, 0, 1])
        self.assert_cannot(job(6, 5, 300, 2, [0, 0, 0]), [1, 2, 2])


class OneLongWay(Plans):
    WAYS = [0, 0, 120, 0, 0]

    def test_the_loads_ahead_of_it_are_filled_sooner(self):
        self.assert_can(job(5, 10, 120, 20, self.WAYS), 115, [5, 10, 15, 25, 35], [5, 10, 15, 145, 155])

    def test_a_minute_too_old_by_itself(self):
        self.assert_cannot(job(5, 10, 119, 20, self.WAYS), [0, 2, 2])

    def test_the_plant_makes_those_ahead_too_old(self):
        self.assert_cannot(job(20, 10, 120, 20, self.WAYS), [0, 0, 2])


class WhyNot(Plans):
    def test_by_both_is_by_age(self):
        self.assert_cannot(job(5, 60, 40, 1, [0, 50]), [0, 1, 1])

    def test_by_lorries_ahead_of_a_later_one_by_age(self):
        self.assert_cannot(job(5, 60, 40, 1, [0, 0, 50]), [1, 1, 1])

    def test_by_j_ahead_of_by_k(self):
        self.assert_cannot(job(10, 5, 20, 2, [0] * 6), [0, 0, 5])
        self.assert_cannot(job(10, 5, 20, 2, [0] * 5), [1, 2, 2])

    def test_by_k_where_j_is_the_same(self):
        self.assert_cannot(job(5, 10, 30, 20, [0, 0, 0, 40, 90]), [0, 0, 4])
        self.assert_cannot(job(5, 10, 30, 20, [0, 0, 60, 80, 90]), [0, 0, 2])

    def test_the_last_two_loads_there_may_be(self):
        self.assert_cannot(job(1, 60, 119, 20, [0] * 19 + [120]), [0, 19, 19])


if __name__ == "__main__":
    unittest.main()
