"""Promise 2 of check: what an hour does, what is wrong in it, and the refusals."""

import unittest

from lines import LARGEST, begins, check, hour, last, told


class PlanThatCanBe(unittest.TestCase):
    def test_cost_and_heights(self):
        # 30 + 5 = 35, out to 20: 20, pumped 2: 18. 18 + 10 = 28, shut, pumped
        # 3: 25. 25 + 0 = 25, 15 of the sea's 40 - 25 in: 40, pumped 4: 36.
        storm = [begins(30, 10, 40, 5, 50, 6), hour(5, 20, 3), hour(10, 90, 7), hour(0, 40, 11)]
        self.assertEqual(last(*storm, check(1, 2, 0, 3, 1, 4)), [6 + 21 + 44 + 15 * 6, 18, 25, 36])

    def test_shut_and_nothing_pumped(self):
        storm = [begins(30, 10, 40, 5, 50, 6), hour(1, 0, 9), hour(2, 100, 9)]
        self.assertEqual(last(*storm, check(0, 0, 0, 0)), [0, 31, 33])

    def test_six_hours(self):
        storm = [begins(0, 0, 60, 12, 100, 100), *[hour(10, 0, 2)] * 6]
        plan = check(0, 1, 0, 2, 0, 3, 0, 4, 0, 5, 0, 6)
        self.assertEqual(last(*storm, plan), [42, 9, 17, 24, 30, 35, 39])

    def test_the_largest_cost(self):
        storm = [begins(0, 0, 60, 12, 100, 100), hour(0, 60, 100)]
        self.assertEqual(last(*storm, check(1, 12)), [60 * 100 + 12 * 100, 48])

    def test_pumped_as_much_as_the_pumps_do(self):
        self.assertEqual(last(begins(30, 0, 60, 12, 0, 0), hour(0, 0, 5), check(0, 12)), [60, 18])

    def test_heights_at_low_and_at_high(self):
        storm = [begins(20, 10, 25, 12, 0, 0), hour(5, 0, 1), hour(0, 0, 1), hour(0, 0, 1)]
        self.assertEqual(last(*storm, check(0, 0, 0, 3, 0, 12)), [15, 25, 22, 10])

    def test_no_hours_are_told(self):
        self.assertEqual(last(check()), [0])
        self.assertEqual(last(begins(30, 0, 60, 12, 0, 0), check()), [0])

    def test_the_storm_is_afterwards_as_it_was(self):
        plan = check(1, 2)
        answered = told(begins(30, 10, 40, 5, 50, 6), hour(5, 20, 3), plan, plan, check(0, 0), plan)
        self.assertEqual(answered[2:], [[6, 18], [6, 18], [0, 35], [6, 18]])


class OrderInAnHour(unittest.TestCase):
    def test_rain_before_the_gate(self):
        # Ahead of the rain the water stands lower than the sea, behind it higher.
        storm = [begins(10, 0, 60, 12, 100, 50), hour(10, 15, 1)]
        self.assertEqual(last(*storm, check(1, 0)), [0, 15])

    def test_rain_makes_less_come_in(self):
        storm = [begins(10, 0, 60, 12, 100, 50), hour(10, 25, 1)]
        self.assertEqual(last(*storm, check(1, 0)), [5 * 50, 25])

    def test_the_gate_before_the_pumps(self):
        # Were the pumps first, the water would stand at the sea's 20 either way.
        storm = [begins(25, 0, 60, 12, 100, 50), hour(0, 20, 1)]
        self.assertEqual(last(*storm, check(1, 12)), [12, 8])
        storm = [begins(20, 0, 60, 12, 100, 50), hour(0, 20, 1)]
        self.assertEqual(last(*storm, check(1, 7)), [7, 13])

    def test_heights_between_are_not_looked_at(self):
        # Behind the rain 50, behind the gate 5, behind the pumps 4.
        storm = [begins(30, 4, 4, 12, 100, 50), hour(20, 5, 1)]
        self.assertEqual(last(*storm, check(1, 1)), [1, 4])
        # Behind the gate 72, over the high of 60; behind the pumps 60.
        storm = [begins(36, 0, 60, 12, 40, 1), hour(12, 72, 2)]
        self.assertEqual(last(*storm, check(1, 12)), [24 + 24, 60])


class OpenGate(unittest.TestCase):
    def height_and_cost(self, stands, sea, width):
        cost, height = last(begins(stands, 0, 60, 0, width, 7), hour(0, sea, 1), check(1, 0))
        return height, cost

    def test_higher_than_the_sea(self):
        for stands, sea, width, height in (
            (30, 20, 11, 20), (30, 20, 10, 20), (30, 20, 9, 21), (30, 20, 1, 29), (30, 20, 0, 30),
            (30, 20, 100, 20), (21, 20, 100, 20), (60, 0, 100, 0), (60, 0, 59, 1),
        ):
            with self.subTest(stands=stands, sea=sea, width=width):
                self.assertEqual(self.height_and_cost(stands, sea, width), (height, 0))

    def test_as_high_as_the_sea(self):
        for width in (0, 1, 100):
            self.assertEqual(self.height_and_cost(30, 30, width), (30, 0))

    def test_lower_than_the_sea(self):
        for stands, sea, width, height in (
            (20, 30, 11, 30), (20, 30, 10, 30), (20, 30, 9, 29), (20, 30, 1, 21), (20, 30, 0, 20),
            (20, 30, 100, 30), (19, 20, 100, 20), (0, 60, 100, 60), (0, 100, 60, 60), (0, 100, 59, 59),
        ):
            with self.subTest(stands=stands, sea=sea, width=width):
                self.assertEqual(self.height_and_cost(stands, sea, width), (height, 7 * (height - stands)))

    def test_the_whole_sea_comes_in_through_the_whole_width(self):
        self.assertEqual(last(begins(0, 0, 60, 12, 100, 1), hour(0, 100, 0), check(1, 12)), [-6, 0, 3])

    def test_shut_lets_nothing_through(self):
        for sea in (0, 29, 30, 31, 100):
            self.assertEqual(last(begins(30, 0, 60, 0, 100, 7), hour(0, sea, 1), check(0, 0)), [0, 30])


class Wrong(unittest.TestCase):
    def test_more_than_the_pumps_do(self):
        storm = [begins(30, 0, 60, 5, 50, 0), hour(0, 0, 1)]
        self.assertEqual(last(*storm, check(0, 5)), [5, 25])
        self.assertEqual(last(*storm, check(0, 6)), [-6, 0, 1])
        self.assertEqual(last(*storm, check(0, LARGEST)), [-6, 0, 1])

    def test_lower_than_it_may(self):
        storm = [begins(12, 10, 60, 5, 50, 0), hour(0, 0, 1)]
        self.assertEqual(last(*storm, check(0, 2)), [2, 10])
        self.assertEqual(last(*storm, check(0, 3)), [-6, 0, 2])
        self.assertEqual(last(*storm, check(1, 0)), [-6, 0, 2])

    def test_lower_than_nothing(self):
        storm = [begins(3, 0, 60, 12, 50, 0), hour(0, 0, 1)]
        self.assertEqual(last(*storm, check(0, 3)), [3, 0])
        self.assertEqual(last(*storm, check(0, 4)), [-6, 0, 2])

    def test_higher_than_it_may(self):
        storm = [begins(30, 10, 40, 5, 50, 0), hour(11, 60, 1)]
        self.assertEqual(last(*storm, check(0, 1)), [1, 40])
        self.assertEqual(last(*storm, check(0, 0)), [-6, 0, 3])
        self.assertEqual(last(*storm, check(1, 5)), [-6, 0, 3])

    def test_several_in_one_hour(self):
        low = [begins(12, 10, 60, 5, 50, 0), hour(0, 0, 1)]
        self.assertEqual(last(*low, check(0, 6)), [-6, 0, 1])
        high = [begins(50, 10, 40, 5, 50, 0), hour(30, 60, 1)]
        self.assertEqual(last(*high, check(0, 6)), [-6, 0, 1])

    def test_in_a_later_hour(self):
        storm = [begins(30, 20, 40, 5, 50, 0), *[hour(5, 0, 1)] * 6]
        self.assertEqual(last(*storm, check(0, 5, 0, 5, 0, 6, 0, 5, 0, 5, 0, 5)), [-6, 2, 1])
        self.assertEqual(last(*storm, check(0, 5, 1, 5, 0, 5, 0, 5, 0, 5, 0, 5)), [-6, 1, 2])
        self.assertEqual(last(*storm, check(0, 0, 0, 0, 0, 0, 0, 0, 0, 0, 0, 0)), [-6, 2, 3])
        self.assertEqual(last(*storm, check(0, 5, 0, 5, 0, 5, 0, 5, 0, 5, 0, 6)), [-6, 5, 1])

    def test_the_first_hour_of_several_that_are_wrong(self):
        storm = [begins(30, 20, 40, 5, 50, 0), hour(11, 0, 1), hour(0, 0, 1)]
        self.assertEqual(last(*storm, check(0, 0, 0, 6)), [-6, 0, 3])

    def test_heights_come_again_into_what_is_allowed_too_late(self):
        storm = [begins(40, 20, 40, 5, 50, 0), hour(3, 0, 1), hour(0, 0, 1)]
        self.assertEqual(last(*storm, check(0, 0, 0, 5)), [-6, 0, 3])


class HeightAtTheBeginning(unittest.TestCase):
    def test_too_high_is_not_looked_at(self):
        storm = [begins(50, 20, 40, 12, 50, 0), hour(0, 0, 1)]
        self.assertEqual(last(*storm, check(0, 10)), [10, 40])
        self.assertEqual(last(*storm, check(0, 9)), [-6, 0, 3])

    def test_too_low_is_not_looked_at(self):
        storm = [begins(10, 20, 40, 12, 50, 0), hour(10, 0, 1)]
        self.assertEqual(last(*storm, check(0, 0)), [0, 20])
        self.assertEqual(last(*storm, check(0, 1)), [-6, 0, 2])

    def test_no_hours_are_told(self):
        self.assertEqual(last(begins(50, 20, 40, 12, 50, 0), check()), [0])


class NotAsTold(unittest.TestCase):
    def test_another_length_than_wanted(self):
        for hours in range(7):
            storm = [begins(30, 0, 60, 12, 100, 0), *[hour(0, 0, 0)] * hours]
            for length in range(15):
                with self.subTest(hours=hours, length=length):
                    answer = [0] + [30] * hours if length == 2 * hours else [-1]
                    self.assertEqual(last(*storm, check(*[0] * length)), answer)

    def test_a_gate_that_is_neither_0_nor_1(self):
        storm = [begins(30, 0, 60, 12, 100, 0), hour(0, 30, 0), hour(0, 30, 0)]
        for gate in (2, 3, 12, LARGEST):
            with self.subTest(gate=gate):
                self.assertEqual(last(*storm, check(gate, 0, 0, 0)), [-1])
                self.assertEqual(last(*storm, check(0, 0, gate, 0)), [-1])
        self.assertEqual(last(*storm, check(1, 0, 1, 0)), [0, 30, 30])

    def test_much_pumped_is_not_a_gate(self):
        storm = [begins(30, 0, 60, 12, 100, 0), hour(0, 30, 0), hour(0, 30, 0)]
        self.assertEqual(last(*storm, check(0, 2, 1, 12)), [0, 28, 18])
        self.assertEqual(last(*storm, check(0, 2, 1, LARGEST)), [-6, 1, 1])

    def test_told_ahead_of_what_is_wrong_in_an_earlier_hour(self):
        storm = [begins(30, 0, 60, 5, 100, 0), hour(0, 0, 0), hour(0, 0, 0)]
        self.assertEqual(last(*storm, check(0, 6, 2, 0)), [-1])
        self.assertEqual(last(*storm, check(0, 6, 0)), [-1])
        self.assertEqual(last(*storm, check(2, 6, 0, 0)), [-1])

    def test_all_stays_as_it_was(self):
        answered = told(
            begins(30, 0, 60, 5, 100, 0), hour(1, 0, 2), check(0, 1), check(0), check(2, 0), check(0, 6),
            check(0, 1), hour(0, 0, 0),
        )
        self.assertEqual(answered[2:], [[2, 30], [-1], [-1], [-6, 0, 1], [2, 30], [1]])


if __name__ == "__main__":
    unittest.main()
