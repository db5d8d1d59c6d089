"""The list of calls and the list of answers; -11 before a begin; what is handed in stays as it is."""

import unittest

import pavedloads.loads
from pavedloads.loads import answers
from tests.helper import GREATEST, ask, call, job, last, look, loads, run, split

# Every call but begin, with numbers that are no refusal for it.
OTHERS = [
    [1, 5], [2, 0, 5], [3], [4, 2], [5, 4], [6, 4], [7, 4], [8], [9], [10], [11, 50], [12, 50],
    [13, 50], [14, 50], [15, 50], [16, 50], [17, 50, 0], [17, 50, 3, 8, 9, 10], [18], [19], [20], [21],
    [22, 0], [23, 0], [24], [25],
]


class TheLists(unittest.TestCase):
    def test_counts_stand_before_each_answer(self):
        calls = [0, 5, 10, 30, 4, 2, 1, 10, 1, 8, 8, 9, 10, 11, 20, 12, 20, 3, 11, 5001]
        self.assertEqual(
            answers(calls),
            [1, 0, 1, 1, 1, 0, 1, 1, 1, 1, 1, -17, 1, 15, 3, 2, 5, 10, 3, 2, 10, 22, 1, 1, 1, -22],
        )

    def test_counts_of_the_calls_from_ages_on(self):
        calls = [
            0, 5, 25, 30, 4, 2, 1, 10, 1, 10, 1, 10,
            13, 15, 14, 15, 15, 15, 16, 15, 17, 15, 3, 5, 10, 55, 18, 19, 20, 21, 22, 1, 23, 0, 24, 25,
        ]
        self.assertEqual(answers(calls)[10:], [
            4, 3, 10, 30, 10, 4, 3, 0, 20, 0, 1, 1, 1, 90, 1, 1, 1, 2, 1, 25, 1, 10, 1, 5, 1, 20, 3, 2, 0, 2,
            4, 3, 10, 10, 10, 6, 0, 5, 25, 30, 2, 3,
        ])

    def test_counts_of_their_refusals(self):
        calls = [
            0, 5, 25, 9, 1, 10, 13, 15, 14, 15, 16, 15, 13, 5001, 14, 5001, 15, 5001, 16, 5001, 17, 5001, 1, 5,
            17, 15, 0, 18, 19, 21, 22, 0, 22, 1, 23, 1,
        ]
        self.assertEqual(answers(calls)[4:], [
            1, -33, 1, -33, 1, -33, 1, -22, 1, -22, 1, -22, 1, -22, 1, -22,
            1, -22, 1, -33, 1, -33, 1, -33, 1, -33, 1, -2, 1, -2,
        ])

    def test_a_row_of_any_length_is_read_to_its_end(self):
        for length in (0, 1, 2, 3, 20, 21, 28999, 29000):
            for begun, answer in (([], -11), ([0, 5, 25, 30], -22 if length else 1)):
                with self.subTest(length=length, begun=begun):
                    calls = [*begun, 17, 40, length, *[25] * length, 25, 17, 40, 1, 24, 24]
                    given = answers(calls)[2 if begun else 0:]
                    rest = [6, 0, 5, 25, 30, 1, 0, 1, -22, 1, 0] if begun else [1, -11] * 3
                    self.assertEqual(given, [1, answer, *rest])

    def test_a_row_whose_numbers_look_like_calls(self):
        calls = [0, 5, 25, 30, 1, 10, 17, 20, 1, 10, 17, 20, 2, 3, 3, 17, 20, 1, 0, 24]
        self.assertEqual(answers(calls), [1, 0, 1, 0, 1, 1, 1, -22, 1, 0, 2, 1, 10])

    def test_why_answers_three_numbers(self):
        self.assertEqual(answers([0, 5, 10, 0, 1, 1, 9]), [1, 0, 1, 0, 3, 0, 0, 0])

    def test_the_module_is_there_by_its_name(self):
        self.assertIs(pavedloads.loads.answers, answers)

    def test_the_list_handed_in_is_as_it_was(self):
        calls = [
            0, 5, 10, 30, 1, 10, 2, 0, 11, 4, 2, 11, 50, 12, 50, 13, 50, 14, 50, 15, 50, 16, 50, 17, 50, 1, 39,
            18, 19, 20, 21, 22, 0, 23, 0, 24, 25, 17, 50, 3, 1, 2, 3, 3, 9, 4, 0, 7, 400,
        ]
        before = list(calls)
        answers(calls)
        self.assertEqual(calls, before)

    def test_a_list_that_is_only_read_does(self):
        class OnlyRead(list):
            def refuse(self, *told):
                raise AssertionError("changed")

            __setitem__ = __delitem__ = __iadd__ = __imul__ = refuse
            append = extend = insert = pop = remove = clear = sort = reverse = refuse

        calls = OnlyRead([
            0, 5, 10, 30, 1, 10, 2, 0, 11, 4, 2, 11, 50, 12, 50, 13, 50, 14, 50, 15, 50, 16, 50, 17, 50, 1, 39,
            18, 19, 20, 21, 22, 0, 23, 0, 24, 25, 3, 9,
        ])
        self.assertEqual(answers(calls), answers(list(calls)))

    def test_all_is_plain_whole_numbers(self):
        looks = [
            8, 9, 10, 11, 50, 12, 50, 13, 50, 14, 50, 15, 50, 15, 0, 16, 50, 17, 50, 1, 39, 17, 50, 1, 0, 17, 50, 0,
            18, 19, 20, 21, 22, 0, 22, 1, 23, 0, 23, 1, 24, 25,
        ]
        given = answers([0, 5, 10, 30, 1, 10, *looks, 7, 0, *looks, 3, *looks])
        self.assertIs(type(given), list)
        self.assertEqual({type(number) for number in given}, {int})

    def test_no_number_but_a_refusal_is_below_0(self):
        looks = [
            8, 9, 10, 11, 50, 12, 50, 13, 50, 14, 50, 15, 50, 16, 50, 17, 50, 1, 39,
            18, 19, 20, 21, 22, 0, 23, 0, 24, 25,
        ]
        for begun in ([0, 5, 10, 30], [0, 60, 1, 300], [0, 1, 60, 0]):
            for one in split(answers([*begun, 1, 10, *looks, 1, 0, *looks, 3, 3, *looks])):
                self.assertTrue(one[0] >= 0 or one in ([-2], [-17], [-22], [-33]), one)
                self.assertGreaterEqual(min([0, *one[1:]]), 0, one)

    def test_nothing_is_kept_from_one_time_to_the_next(self):
        answers([0, 5, 10, 30, 1, 10])
        self.assertEqual(answers([3]), [1, -11])
        first = answers([0, 5, 10, 30, 1, 10, 4, 3])
        self.assertEqual(answers([0, 5, 10, 30, 1, 10, 4, 3]), first)

    def test_an_answer_once_given_is_its_own(self):
        first = answers([0, 5, 10, 30, 1, 10, 11, 50])
        first.append(7)
        self.assertEqual(answers([0, 5, 10, 30, 1, 10, 11, 50]), [1, 0, 1, 0, 2, 1, 20])

    def test_256_calls_of_20_loads(self):
        calls = [*job(1, 1, 300, 20, [0] * 20), *[call("latest", 5000)] * 234]
        self.assertEqual(len(calls), 256)
        self.assertEqual(last(calls), [20, *range(5000, 5020)])


class NotBegun(unittest.TestCase):
    def test_each_other_call_is_refused_at_a_lines_beginning(self):
        for one in OTHERS:
            with self.subTest(one=one):
                self.assertEqual(answers(one), [1, -11])

    def test_all_of_them_one_behind_another(self):
        # Each twice: a call that was read too long would take the next one's number.
        flat = [number for one in OTHERS for number in one * 2]
        self.assertEqual(answers(flat), [1, -11] * (2 * len(OTHERS)))

    def test_behind_a_begin_that_was_refused(self):
        for begin in ([0, 0, 1, 0], [0, 61, 1, 0], [0, 1, 0, 0], [0, 1, 61, 0], [0, 1, 1, 301]):
            for one in OTHERS:
                with self.subTest(begin=begin, one=one):
                    self.assertEqual(answers([*begin, *one]), [1, -22, 1, -11])

    def test_it_is_told_ahead_of_every_other_refusal(self):
        for one in (
            [1, 121], [2, 0, 121], [4, 0], [5, 0], [6, 61], [7, 301], [11, 5001], [12, GREATEST], [13, 5001],
            [14, 5001], [15, GREATEST], [16, 5001], [17, 5001, 0], [17, 5000, 1, 65535], [22, GREATEST],
            [23, GREATEST],
        ):
            with self.subTest(one=one):
                self.assertEqual(answers(one), [1, -11])

    def test_calls_ahead_of_the_begin_leave_nothing_behind(self):
        ahead = [[1, 5], [4, 7], [5, 9], [6, 9], [7, 9]]
        begun = [call("begin", 5, 10, 30)]
        self.assertEqual(run([*ahead, *begun])[-1], [0])
        self.assertEqual(look([*ahead, *begun]), look(begun))


class BegunAnew(unittest.TestCase):
    BEFORE = job(7, 9, 100, 3, [10, 20, 30])

    def test_a_later_begin_that_is_refused_leaves_all_as_it_was(self):
        for told in ((0, 9, 9), (61, 9, 9), (9, 0, 9), (9, 61, 9), (9, 9, 301), (GREATEST,) * 3):
            with self.subTest(told=told):
                calls = [*self.BEFORE, call("begin", *told)]
                self.assertEqual(last(calls), [-22])
                self.assertEqual(look(calls), look(self.BEFORE))

    def test_a_later_begin_makes_it_new(self):
        calls = [*self.BEFORE, call("begin", 5, 10, 30)]
        self.assertEqual(last(calls), [0])
        self.assertEqual(look(calls), look([call("begin", 5, 10, 30)]))
        self.assertEqual(ask(calls, "less"), [-6])
        self.assertEqual(ask(calls, "lorries", 4), [1])
        self.assertEqual(ask(calls, "filling", 1), [5])
        self.assertEqual(ask(calls, "laying", 1), [10])
        self.assertEqual(ask(calls, "keeping", 1), [30])
        self.assertEqual(ask(calls, "load", 1), [0])

    def test_loads_of_the_earlier_job_do_not_come_back(self):
        calls = [*self.BEFORE, call("begin", 5, 10, 30), *loads([4])]
        self.assertEqual(ask(calls, "drive", 0, 0), [4])
        self.assertEqual(ask(calls, "drive", 1, 0), [-2])


if __name__ == "__main__":
    unittest.main()
