"""Point 3, but tour: fewest, leastlay, leastkeep, mostfill and spare, in cases reckoned by hand."""

import unittest

from tests.helper import GREATEST, ask, job, plan_there_is

# Which of the numbers that are told (fill, lay, keep, lorries) each call asks for, and from where to where it goes.
PLACES = {"mostfill": (0, 1, 60), "leastlay": (1, 1, 60), "leastkeep": (2, 0, 300), "fewest": (3, 1, 20)}


class Limits(unittest.TestCase):
    def assert_limit(self, name, told, number):
        """It is told, whatever that number itself was told to be; it can be by it, and not by the one next to it."""
        place, least, greatest = PLACES[name]
        next_to_it = number + 1 if name == "mostfill" else number - 1
        for one in sorted({least, max(least, number - 1), number, min(greatest, number + 1), greatest}):
            other = (*told[:place], one, *told[place + 1:])
            self.assertEqual(ask(job(*other), name), [number], (name, other))
        self.assert_can(told, place, number, True)
        if least <= next_to_it <= greatest:
            self.assert_can(told, place, next_to_it, False)

    def assert_none(self, name, told):
        place, least, greatest = PLACES[name]
        for one in range(least, greatest + 1):
            self.assert_can(told, place, one, False)
        for one in (least, told[place], greatest):
            other = (*told[:place], one, *told[place + 1:])
            self.assertEqual(ask(job(*other), name), [-33], (name, other))

    def assert_can(self, told, place, number, can):
        other = (*told[:place], number, *told[place + 1:])
        self.assertEqual(plan_there_is(*other), can, other)
        self.assertEqual(ask(job(*other), "can"), [int(can)], other)


class Fewest(Limits):
    def test_without_loads(self):
        self.assert_limit("fewest", (5, 10, 0, 1, []), 1)

    def test_one_load(self):
        self.assert_limit("fewest", (5, 10, 30, 1, [10]), 1)
        self.assert_limit("fewest", (60, 60, 300, 1, [120]), 1)

    def test_a_lorry_just_back_and_a_minute_late(self):
        self.assert_limit("fewest", (5, 25, 30, 1, [10, 10, 10]), 2)
        self.assert_limit("fewest", (5, 24, 30, 1, [10, 10, 10]), 3)
        self.assert_limit("fewest", (6, 25, 30, 1, [10, 10, 10]), 3)
        self.assert_limit("fewest", (5, 25, 30, 1, [11, 10, 10]), 3)
        self.assert_limit("fewest", (5, 25, 30, 1, [10, 11, 10]), 2)

    def test_as_many_as_loads(self):
        self.assert_limit("fewest", (5, 10, 30, 1, [10, 10]), 2)
        self.assert_limit("fewest", (5, 10, 30, 1, [10] * 3), 3)

    def test_20_loads(self):
        self.assert_limit("fewest", (60, 60, 300, 1, [120] * 20), 6)
        self.assert_limit("fewest", (1, 60, 300, 1, [0] * 20), 2)
        self.assert_limit("fewest", (1, 1, 300, 1, [120] * 20), 20)
        self.assert_limit("fewest", (1, 1, 300, 1, [9] + [0] * 18 + [8]), 19)
        self.assert_limit("fewest", (1, 1, 300, 1, [10] + [0] * 18 + [8]), 20)
        self.assert_limit("fewest", (1, 1, 300, 1, [9] + [0] * 19), 11)

    def test_one_long_way(self):
        self.assert_limit("fewest", (5, 10, 120, 1, [0, 0, 50, 0, 0]), 3)
        self.assert_limit("fewest", (5, 10, 120, 1, [0, 50, 0, 0, 0, 0, 0, 0]), 7)

    def test_none(self):
        self.assert_none("fewest", (5, 10, 9, 1, [10]))
        self.assert_none("fewest", (60, 1, 300, 3, [0] * 20))
        self.assert_none("fewest", (10, 5, 20, 20, [0] * 6))
        self.assert_none("fewest", (5, 10, 119, 2, [0, 0, 120, 0, 0]))


class LeastLay(Limits):
    def test_without_loads(self):
        self.assert_limit("leastlay", (60, 1, 0, 1, []), 1)

    def test_one_load(self):
        self.assert_limit("leastlay", (60, 1, 120, 1, [120]), 1)
        self.assert_none("leastlay", (60, 1, 119, 1, [120]))

    def test_by_lorries(self):
        self.assert_limit("leastlay", (5, 1, 30, 2, [10, 10, 10]), 25)
        self.assert_limit("leastlay", (5, 1, 30, 2, [10, 30, 11]), 26)
        self.assert_limit("leastlay", (60, 1, 300, 6, [120] * 20), 60)

    def test_the_longest_time_and_a_minute_more(self):
        self.assert_limit("leastlay", (5, 1, 30, 2, [30, 10, 25]), 60)
        self.assert_none("leastlay", (5, 1, 30, 2, [30, 10, 26]))
        self.assert_none("leastlay", (60, 1, 300, 5, [120] * 20))

    def test_one_lorry_and_two_loads(self):
        self.assert_none("leastlay", (1, 60, 300, 1, [0, 0]))

    def test_by_age(self):
        self.assert_limit("leastlay", (10, 1, 20, 20, [0] * 20), 9)
        self.assert_limit("leastlay", (10, 1, 20, 20, [0] * 5), 5)
        self.assert_limit("leastlay", (10, 1, 19, 20, [0] * 5), 6)
        self.assert_limit("leastlay", (10, 1, 0, 20, [0] * 2), 10)
        self.assert_limit("leastlay", (60, 1, 0, 2, [0] * 2), 60)

    def test_as_many_lorries_and_more(self):
        self.assert_limit("leastlay", (5, 1, 30, 3, [10, 10, 10]), 1)
        self.assert_limit("leastlay", (5, 1, 30, 20, [10, 10, 10]), 1)
        self.assert_limit("leastlay", (20, 1, 30, 20, [10, 10, 10]), 10)


class LeastKeep(Limits):
    def test_without_loads(self):
        self.assert_limit("leastkeep", (60, 1, 300, 1, []), 0)

    def test_one_load(self):
        self.assert_limit("leastkeep", (5, 10, 30, 1, [0]), 0)
        self.assert_limit("leastkeep", (5, 10, 30, 1, [10]), 10)
        self.assert_limit("leastkeep", (5, 10, 30, 1, [120]), 120)

    def test_the_longest_way(self):
        self.assert_limit("leastkeep", (5, 10, 0, 20, [3, 0, 120, 7]), 120)
        self.assert_limit("leastkeep", (5, 25, 0, 2, [10, 12, 10]), 12)

    def test_a_plant_slower_than_the_paver(self):
        self.assert_limit("leastkeep", (10, 5, 0, 20, [0] * 5), 20)
        self.assert_limit("leastkeep", (10, 5, 0, 20, [0, 0, 0, 8, 2]), 23)

    def test_the_longest_and_a_minute_more(self):
        self.assert_limit("leastkeep", (30, 15, 0, 20, [0] * 19 + [15]), 300)
        self.assert_none("leastkeep", (30, 15, 0, 20, [0] * 19 + [16]))
        self.assert_none("leastkeep", (60, 1, 0, 20, [0] * 20))

    def test_too_few_lorries_for_any(self):
        self.assert_none("leastkeep", (1, 60, 300, 1, [0, 0]))
        self.assert_none("leastkeep", (5, 24, 30, 2, [10, 10, 10]))


class MostFill(Limits):
    def test_without_loads(self):
        self.assert_limit("mostfill", (1, 1, 0, 1, []), 60)

    def test_one_load(self):
        self.assert_limit("mostfill", (1, 1, 10, 1, [10]), 60)
        self.assert_none("mostfill", (1, 1, 9, 1, [10]))

    def test_by_lorries(self):
        self.assert_limit("mostfill", (1, 25, 30, 2, [10, 10, 10]), 5)
        self.assert_limit("mostfill", (1, 21, 30, 2, [10, 10, 10]), 1)
        self.assert_limit("mostfill", (1, 60, 300, 6, [120] * 20), 60)

    def test_the_shortest_time_is_too_long(self):
        self.assert_none("mostfill", (1, 20, 30, 2, [10, 10, 10]))

    def test_one_lorry_and_two_loads(self):
        self.assert_none("mostfill", (1, 60, 300, 1, [0, 0]))

    def test_by_age(self):
        self.assert_limit("mostfill", (1, 10, 30, 20, [10] * 5), 15)
        self.assert_limit("mostfill", (1, 10, 29, 20, [10] * 5), 14)
        self.assert_limit("mostfill", (1, 1, 0, 20, [0] * 20), 1)
        self.assert_limit("mostfill", (1, 1, 17, 20, [0] * 20), 1)
        self.assert_limit("mostfill", (1, 1, 19, 20, [0] * 20), 2)

    def test_the_longest_time_for_as_many_lorries_and_more(self):
        for fleet in (2, 20):
            self.assert_limit("mostfill", (1, 60, 0, fleet, [0, 0]), 60)
            self.assert_limit("mostfill", (1, 59, 0, fleet, [0, 0]), 59)


class Spare(Limits):
    def assert_spare(self, told, numbers):
        """For each load; it can be by each way up to that, and not by a minute more."""
        for k, number in enumerate(numbers):
            self.assertEqual(ask(job(*told), "spare", k), [number], (told, k))
            for more in range(number + 1):
                self.assertTrue(plan_there_is(*self.longer(told, k, more)), (told, k, more))
            if number < 300:
                self.assertFalse(plan_there_is(*self.longer(told, k, number + 1)), (told, k))

    def longer(self, told, k, more):
        ways = list(told[4])
        ways[k] += more
        return (*told[:4], ways)

    def test_none(self):
        self.assert_spare((5, 10, 10, 1, [10]), [0])
        self.assert_spare((5, 25, 30, 2, [10, 30, 10]), [0, 0, 0])

    def test_as_long_as_it_keeps(self):
        self.assert_spare((5, 10, 30, 1, [10]), [20])
        self.assert_spare((5, 25, 30, 3, [10, 10, 10]), [20, 20, 20])
        self.assert_spare((5, 25, 30, 20, [10, 11, 12]), [20, 19, 18])

    def test_till_its_lorry_is_back(self):
        self.assert_spare((5, 25, 30, 2, [10, 10, 10]), [0, 20, 0])
        self.assert_spare((5, 28, 30, 2, [10, 10, 10]), [3, 20, 3])
        self.assert_spare((5, 40, 200, 2, [10, 10, 10, 10, 10]), [15, 15, 15, 15, 15])

    def test_out_and_back_both_count(self):
        # Load 2 is brought by the lorry of load 0, which has load 4 next.
        self.assert_spare((5, 40, 200, 2, [10, 0, 0, 0, 20]), [25, 35, 15, 35, 15])

    def test_a_plant_slower_than_the_paver(self):
        self.assert_spare((10, 5, 23, 20, [0] * 5), [23, 18, 13, 8, 3])

    def test_300_at_the_most(self):
        self.assert_spare((5, 10, 300, 1, [0]), [300])
        self.assert_spare((5, 10, 300, 2, [0, 0]), [300, 300])
        self.assert_spare((5, 10, 300, 1, [1]), [299])
        self.assert_spare((5, 10, 299, 1, [0]), [299])

    def test_a_way_longer_than_120(self):
        self.assert_spare((5, 10, 121, 1, [120]), [1])
        self.assert_spare((5, 10, 300, 1, [120]), [180])
        self.assert_spare((5, 60, 300, 4, [0] * 5), [175, 300, 300, 300, 175])

    def test_20_loads(self):
        self.assert_spare((60, 60, 300, 7, [120] * 20), [60] * 20)
        self.assert_spare((60, 60, 300, 20, [120] * 20), [180] * 20)

    def test_no_such_load(self):
        for told in ((5, 10, 30, 1, []), (5, 10, 30, 1, [10]), (60, 60, 300, 20, [120] * 20)):
            for k in (len(told[4]), len(told[4]) + 1, GREATEST):
                self.assertEqual(ask(job(*told), "spare", k), [-2], (told, k))

    def test_it_cannot_be(self):
        for told in ((5, 10, 9, 1, [10]), (5, 24, 30, 2, [10, 10, 10]), (60, 1, 300, 20, [0] * 20)):
            for k in range(len(told[4])):
                self.assertEqual(ask(job(*told), "spare", k), [-33], (told, k))

    def test_no_such_load_is_told_first(self):
        for told in ((5, 10, 9, 1, [10]), (5, 24, 30, 2, [10, 10, 10]), (60, 1, 300, 20, [0] * 20)):
            for k in (len(told[4]), GREATEST):
                self.assertEqual(ask(job(*told), "spare", k), [-2], (told, k))


if __name__ == "__main__":
    unittest.main()
