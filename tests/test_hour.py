"""Promise 1 of hour: its number, its refusals, and hours at a line's beginning."""

import unittest

from lines import LARGEST, begins, best, check, hour, last, told

STORM = begins(30, 0, 60, 5, 50, 10)
ENDS = (30, 100, 100)


def with_number(place, number):
    numbers = [3, 40, 7]
    numbers[place] = number
    return hour(*numbers)


class HoursNumber(unittest.TestCase):
    def test_counted_from_0_to_5(self):
        answered = told(STORM, *[hour(1, 2, 3)] * 6)
        self.assertEqual(answered, [[0], [0], [1], [2], [3], [4], [5]])

    def test_other_calls_between_do_not_count(self):
        answered = told(STORM, hour(1, 2, 3), best(), hour(1, 2, 3), check(), hour(31, 0, 0), hour(1, 2, 3))
        self.assertEqual([answered[1], answered[3], answered[6]], [[0], [1], [2]])

    def test_each_number_at_both_ends(self):
        for place, end in enumerate(ENDS):
            for number in (0, 1, end - 1, end):
                with self.subTest(place=place, number=number):
                    self.assertEqual(last(STORM, with_number(place, number)), [0])

    def test_all_numbers_at_their_ends(self):
        self.assertEqual(told(hour(0, 0, 0), hour(30, 100, 100)), [[0], [1]])


class HourRefused(unittest.TestCase):
    def test_each_number_beyond_its_end(self):
        for place, end in enumerate(ENDS):
            for number in (end + 1, end + 2, LARGEST):
                with self.subTest(place=place, number=number):
                    self.assertEqual(last(STORM, with_number(place, number)), [-1])

    def test_the_seventh_hour(self):
        answered = told(STORM, *[hour(1, 2, 3)] * 8)
        self.assertEqual(answered[-3:], [[5], [-5], [-5]])

    def test_a_seventh_hour_that_is_not_as_told_either(self):
        for place, end in enumerate(ENDS):
            with self.subTest(place=place):
                answered = last(STORM, *[hour(1, 2, 3)] * 6, with_number(place, end + 1))
                self.assertEqual(answered, [-1])

    def test_the_sixth_hour_that_is_not_as_told(self):
        answered = told(STORM, *[hour(1, 2, 3)] * 5, hour(31, 2, 3), hour(1, 2, 3), hour(1, 2, 3))
        self.assertEqual(answered[-3:], [[-1], [5], [-5]])

    def test_all_stays_as_it_was(self):
        hours = [hour(number, 40 - number, 7) for number in range(6)]
        plan = check(1, 1, 0, 0, 0, 2, 0, 0, 1, 5, 0, 1)
        answered = told(
            STORM, *hours, plan, best(), hour(31, 0, 0), hour(0, 101, 0), hour(0, 0, 101), hour(0, 0, 0), plan, best(),
        )
        self.assertEqual(answered[-6:-2], [[-1], [-1], [-1], [-5]])
        self.assertEqual(answered[-2:], answered[7:9])
        self.assertEqual(len(answered[-1]), 14)
        self.assertGreaterEqual(answered[-2][0], 0)

    def test_a_refused_hour_is_not_told(self):
        answered = told(STORM, hour(1, 2, 3), hour(31, 0, 0), check(0, 0), check(0, 0, 0, 0))
        self.assertEqual(answered[-2:], [[0, 31], [-1]])


class AtALinesBeginning(unittest.TestCase):
    def test_all_numbers_are_0(self):
        answered = told(hour(0, 0, 9), check(0, 0), check(1, 0), check(0, 1), best())
        self.assertEqual(answered, [[0], [0, 0], [0, 0], [-6, 0, 1], [0, 2, 0, 0]])

    def test_rain_is_too_high_with_a_high_of_0(self):
        answered = told(hour(1, 0, 0), check(0, 0), check(1, 0), best())
        self.assertEqual(answered, [[0], [-6, 0, 3], [-6, 0, 3], [-6]])

    def test_nothing_runs_through_a_width_of_0(self):
        self.assertEqual(last(hour(0, 100, 0), check(1, 0)), [0, 0])

    def test_six_hours(self):
        answered = told(*[hour(0, 0, 0)] * 7, best())
        self.assertEqual(answered, [[0], [1], [2], [3], [4], [5], [-5], [0, 64] + [0] * 12])


if __name__ == "__main__":
    unittest.main()
