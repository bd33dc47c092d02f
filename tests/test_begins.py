"""Promise 1 of begins: what it answers, its refusal, and what it does to the hours."""

import unittest

from lines import LARGEST, begins, best, check, hour, last, told

ORDINARY = (30, 20, 40, 5, 50, 10)
# Where each number of begins stands, with its end; low and high are at such
# others that low is no more than high at both ends.
ENDS = (60, 60, 60, 12, 100, 100)


def with_number(place, number):
    numbers = [30, 0, 60, 5, 50, 10]
    numbers[place] = number
    return begins(*numbers)


class Begins(unittest.TestCase):
    def test_ordinary_storm(self):
        self.assertEqual(told(begins(*ORDINARY)), [[0]])

    def test_each_number_at_both_ends(self):
        for place, end in enumerate(ENDS):
            for number in (0, 1, end - 1, end):
                with self.subTest(place=place, number=number):
                    self.assertEqual(last(with_number(place, number)), [0])

    def test_each_number_beyond_its_end(self):
        for place, end in enumerate(ENDS):
            for number in (end + 1, end + 2, LARGEST - 1, LARGEST):
                with self.subTest(place=place, number=number):
                    self.assertEqual(last(with_number(place, number)), [-1])

    def test_all_numbers_at_their_ends(self):
        self.assertEqual(last(begins(0, 0, 0, 0, 0, 0)), [0])
        self.assertEqual(last(begins(60, 60, 60, 12, 100, 100)), [0])
        self.assertEqual(last(begins(*[LARGEST] * 6)), [-1])

    def test_low_and_high(self):
        for low, high, answer in (
            (25, 25, 0), (25, 26, 0), (26, 25, -1), (0, 0, 0), (1, 0, -1),
            (60, 60, 0), (60, 59, -1), (59, 60, 0), (60, 0, -1), (61, 61, -1),
        ):
            with self.subTest(low=low, high=high):
                self.assertEqual(last(begins(30, low, high, 5, 50, 10)), [answer])

    def test_stands_may_lie_outside_of_low_and_high(self):
        self.assertEqual(last(begins(10, 20, 40, 5, 50, 10)), [0])
        self.assertEqual(last(begins(50, 20, 40, 5, 50, 10)), [0])

    def test_each_number_is_taken(self):
        # Stands 30, rain 4, then 10 of the sea's 60 - 34 measures come in: 44.
        rain = hour(4, 60, 7)
        storm = begins(30, 42, 43, 2, 10, 9)
        self.assertEqual(last(storm, rain, check(1, 1)), [97, 43])
        self.assertEqual(last(storm, rain, check(1, 0)), [-6, 0, 3])
        self.assertEqual(last(storm, rain, check(1, 2)), [104, 42])
        self.assertEqual(last(storm, rain, check(1, 3)), [-6, 0, 1])
        self.assertEqual(last(storm, rain, check(0, 0)), [-6, 0, 2])


class BeginsOnceMore(unittest.TestCase):
    def test_no_hours_are_told_any_more(self):
        answered = told(
            begins(*ORDINARY), hour(1, 2, 3), hour(4, 5, 6), check(0, 0, 0, 0), best(),
            begins(*ORDINARY), check(), check(0, 0, 0, 0), best(), hour(1, 2, 3), hour(1, 2, 3),
        )
        self.assertEqual(answered[5:], [[0], [0], [-1], [0, 1], [0], [1]])

    def test_behind_six_hours_six_more_can_be_told(self):
        answered = told(
            begins(*ORDINARY), *[hour(0, 0, 0)] * 7,
            begins(*ORDINARY), *[hour(0, 0, 0)] * 7,
        )
        once = [[0], [0], [1], [2], [3], [4], [5], [-5]]
        self.assertEqual(answered, once + once)

    def test_behind_refusals(self):
        answered = told(
            hour(31, 0, 0), begins(61, 0, 0, 0, 0, 0), check(1), hour(0, 0, 0),
            begins(*ORDINARY), check(), hour(0, 0, 0), check(0, 0),
        )
        self.assertEqual(answered, [[-1], [-1], [-1], [0], [0], [0], [0], [0, 30]])

    def test_all_six_numbers_are_the_new_ones(self):
        answered = told(
            begins(0, 0, 0, 0, 0, 0), hour(0, 0, 0),
            begins(30, 42, 43, 2, 10, 9), hour(4, 60, 7), check(1, 1),
        )
        self.assertEqual(answered[-1], [97, 43])


class BeginsRefused(unittest.TestCase):
    def test_storm_and_hours_stay_as_they_were(self):
        storm = [begins(30, 42, 43, 2, 10, 9), hour(4, 60, 7), hour(1, 0, 2)]
        plans = [check(1, 1, 0, 1), check(1, 2, 0, 1), check(1, 3, 0, 1), check(1, 0, 0, 0), best()]
        refused = [with_number(place, end + 1) for place, end in enumerate(ENDS)]
        refused.append(begins(1, 5, 4, 3, 2, 1))
        answered = told(*storm, *plans, *refused, *plans, hour(0, 0, 0))
        behind = len(storm) + len(plans)
        self.assertEqual(answered[behind:behind + 7], [[-1]] * 7)
        self.assertEqual(answered[behind + 7:-1], answered[len(storm):behind])
        self.assertEqual(answered[len(storm)], [97 + 2, 43, 43])
        self.assertEqual(answered[-1], [2])

    def test_refused_at_a_lines_beginning(self):
        answered = told(begins(61, 0, 60, 12, 100, 100), hour(0, 0, 5), check(0, 0), check(0, 1))
        self.assertEqual(answered, [[-1], [0], [0, 0], [-6, 0, 1]])


if __name__ == "__main__":
    unittest.main()
