"""Promise 2 of still: the cheapest plan, if the pumps did nothing."""

import random
import unittest

from lines import begins, best, check, hour, last, shut, still, told
from tried import hours_by_chance, still_by_every_plan, storm_by_chance


class TheGateAlone(unittest.TestCase):
    def test_out_at_ebb_and_shut_at_flood(self):
        storm = [begins(30, 10, 30, 12, 20, 5), hour(5, 12, 9), hour(15, 60, 9), hour(10, 25, 9)]
        # At 35 it runs out to 15, then 30 at flood, then 40 and out to 25.
        self.assertEqual(last(*storm, still()), [0, 1, 1, 0, 0, 0, 1, 0])

    def test_salt_water_comes_in_and_costs(self):
        self.assertEqual(last(begins(5, 10, 60, 3, 100, 4), hour(0, 12, 1), still()), [28, 1, 1, 0])
        self.assertEqual(last(begins(5, 10, 60, 3, 6, 4), hour(0, 12, 1), still()), [24, 1, 1, 0])

    def test_salt_water_where_pumping_would_be_cheaper(self):
        # At 16 behind the first hour the second is too high shut, too low open.
        storm = [begins(16, 10, 20, 5, 12, 3), hour(0, 17, 1), hour(5, 0, 1)]
        self.assertEqual(last(*storm, best()), [1, 2, 0, 0, 0, 1])
        self.assertEqual(last(*storm, still()), [3, 1, 1, 0, 1, 0])

    def test_no_pumps_are_as_best(self):
        storm = [begins(8, 10, 60, 0, 100, 4), hour(0, 30, 1), hour(0, 14, 1)]
        self.assertEqual(last(*storm, still()), [88, 2, 1, 0, 0, 0])
        self.assertEqual(last(*storm, best()), last(*storm, still()))


class NothingIsPumped(unittest.TestCase):
    def test_not_for_nothing_either(self):
        storm = [begins(30, 0, 60, 12, 0, 0), hour(0, 0, 0)]
        self.assertEqual(last(*storm, best()), [0, 2 * 13, 0, 0])
        self.assertEqual(last(*storm, still()), [0, 2, 0, 0])

    def test_only_the_gates_are_counted(self):
        for hours in range(7):
            storm = [begins(30, 0, 60, 12, 0, 0), *[hour(0, 0, 0)] * hours]
            with self.subTest(hours=hours):
                self.assertEqual(last(*storm, still()), [0, 2 ** hours] + [0, 0] * hours)

    def test_the_earliest_opens_late(self):
        # The gate lets out 10 in one hour at least, and in both for nothing, too.
        storm = [begins(30, 0, 30, 12, 10, 0), hour(0, 0, 1), hour(10, 0, 1)]
        self.assertEqual(last(*storm, still()), [0, 3, 0, 0, 1, 0])


class NoPlan(unittest.TestCase):
    def test_too_high_without_the_pumps(self):
        storm = [begins(30, 10, 20, 12, 100, 5), hour(0, 60, 3)]
        self.assertEqual(last(*storm, best()), [30, 1, 0, 10])
        self.assertEqual(last(*storm, still()), [-6])

    def test_too_low_where_the_gate_is_open_and_too_high_where_it_is_shut(self):
        storm = [begins(30, 10, 25, 12, 22, 5), hour(0, 0, 3)]
        self.assertEqual(last(*storm, best()), [15, 1, 0, 5])
        self.assertEqual(last(*storm, still()), [-6])

    def test_too_much_salt_water(self):
        storm = [begins(5, 10, 25, 12, 100, 1), hour(0, 30, 2)]
        self.assertEqual(last(*storm, best()), [25 + 10, 1, 1, 5])
        self.assertEqual(last(*storm, still()), [-6])

    def test_one_measure_too_many_for_the_gate(self):
        self.assertEqual(last(begins(30, 0, 18, 12, 12, 5), hour(0, 0, 1), still()), [0, 1, 1, 0])
        self.assertEqual(last(begins(30, 0, 17, 12, 12, 5), hour(0, 0, 1), still()), [-6])

    def test_in_a_later_hour(self):
        storm = [begins(30, 0, 30, 12, 2, 5), *[hour(2, 0, 1)] * 5]
        self.assertEqual(last(*storm, hour(2, 0, 1), still()), [0, 1] + [1, 0] * 6)
        self.assertEqual(last(*storm, hour(3, 0, 1), still()), [-6])


class Together(unittest.TestCase):
    def test_in_one_hour_they_bear_what_neither_does_alone(self):
        storm = [begins(40, 0, 20, 5, 15, 0), hour(0, 0, 2)]
        self.assertEqual(told(*storm, best(), shut(), still())[2:], [[10, 1, 1, 5], [-6], [-6]])
        self.assertEqual(last(*storm, check(1, 5)), [10, 20])

    def test_in_several_hours(self):
        # Open in each hour, 6 are to be pumped: 2 behind the first, 4 behind the second.
        storm = [begins(30, 10, 30, 4, 6, 2), *[hour(8, 0, 1)] * 3]
        self.assertEqual(told(*storm, best(), shut(), still())[4:], [[6, 9, 1, 2, 1, 2, 1, 2], [-6], [-6]])

    def test_what_each_does_alone(self):
        storm = [begins(30, 10, 20, 12, 100, 5), hour(0, 15, 10)]
        self.assertEqual(told(*storm, best(), shut(), still())[2:], [[0, 1, 1, 0], [100, 2, 0, 10], [0, 1, 1, 0]])


class AtALinesBeginning(unittest.TestCase):
    def test_no_call_ahead(self):
        self.assertEqual(told(still()), [[0, 1]])

    def test_hours_alone(self):
        self.assertEqual(last(hour(0, 0, 9), still()), [0, 2, 0, 0])
        self.assertEqual(last(hour(1, 0, 9), still()), [-6])
        self.assertEqual(last(*[hour(0, 0, 9)] * 6, still()), [0, 64] + [0, 0] * 6)

    def test_no_hours_told(self):
        self.assertEqual(last(begins(30, 0, 60, 12, 100, 5), still()), [0, 1])
        self.assertEqual(last(begins(60, 0, 30, 12, 100, 5), still()), [0, 1])
        self.assertEqual(last(begins(30, 0, 60, 12, 100, 5), hour(9, 9, 9), begins(1, 0, 9, 9, 9, 9), still()), [0, 1])


class AllStaysAsItWas(unittest.TestCase):
    def test_best_and_check_still_have_the_pumps(self):
        answered = told(
            begins(16, 10, 20, 5, 12, 3), hour(0, 17, 1), hour(5, 0, 1), best(), check(0, 1, 0, 0),
            still(), best(), check(0, 1, 0, 0), still(), hour(0, 0, 0),
        )
        once = [[1, 2, 0, 0, 0, 1], [1, 15, 20], [3, 1, 1, 0, 1, 0]]
        self.assertEqual(answered[3:], once + once + [[2]])

    def test_shut_and_still_by_turns(self):
        answered = told(begins(30, 10, 20, 12, 100, 5), hour(0, 15, 10), *[shut(), still()] * 3)
        self.assertEqual(answered[2:], [[100, 2, 0, 10], [0, 1, 1, 0]] * 3)

    def test_behind_a_refusal_of_its_own(self):
        storm = [begins(30, 10, 20, 12, 100, 5), hour(0, 60, 3)]
        answered = told(*storm, still(), still(), best(), check(0, 10), hour(0, 0, 0))
        self.assertEqual(answered[2:], [[-6], [-6], [30, 1, 0, 10], [30, 20], [1]])

    def test_behind_refused_calls(self):
        answered = told(
            begins(5, 10, 60, 3, 6, 4), hour(0, 12, 1), still(),
            begins(5, 11, 10, 3, 6, 4), still(), hour(31, 0, 0), still(), check(0), still(),
        )
        self.assertEqual(answered[2:], [[24, 1, 1, 0], *[[-1], [24, 1, 1, 0]] * 3])

    def test_behind_a_seventh_hour(self):
        answered = told(begins(30, 0, 30, 12, 2, 5), *[hour(2, 0, 1)] * 7, still())
        self.assertEqual(answered[-2:], [[-5], [0, 1] + [1, 0] * 6])


class AgainstAnotherWay(unittest.TestCase):
    def test_every_plan_tried(self):
        chance = random.Random(5)
        answered = {"refused": 0, "refused alone": 0, "as best": 0, "other": 0}
        for number in range(400):
            storm, hours = storm_by_chance(chance, 3), hours_by_chance(chance, 3)
            rows = [begins(*storm), *[hour(*numbers) for numbers in hours]]
            with self.subTest(storm=storm, hours=hours):
                tried = still_by_every_plan(storm, hours)
                whole, answer = told(*rows, best(), still())[-2:]
                self.assertEqual(answer, tried)
                self.assertTrue(answer == [-6] or whole != [-6] and whole[0] <= answer[0])
            if answer == [-6]:
                answered["refused" if whole == [-6] else "refused alone"] += 1
            else:
                answered["as best" if answer == whole else "other"] += 1
        self.assertGreater(min(answered.values()), 15, answered)


if __name__ == "__main__":
    unittest.main()
