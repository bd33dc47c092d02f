"""Promise 2 of shut: the cheapest plan, if nothing ran through the gate."""

import random
import unittest

from lines import begins, best, check, hour, last, shut, told
from tried import hours_by_chance, shut_by_every_plan, storm_by_chance


class NothingRuns(unittest.TestCase):
    def test_the_pumps_do_what_the_gate_would(self):
        storm = [begins(30, 10, 20, 12, 100, 5), hour(0, 15, 10)]
        self.assertEqual(last(*storm, best()), [0, 1, 1, 0])
        self.assertEqual(last(*storm, shut()), [100, 2, 0, 10])

    def test_the_pumps_do_all_where_the_gate_would_do_some(self):
        storm = [begins(28, 0, 20, 12, 3, 5), hour(4, 0, 2), hour(5, 0, 9)]
        # Best: 32 less 3 and 11, then 23 less 3. Shut: 32 less 12, then 25 less 5.
        self.assertEqual(last(*storm, best()), [11 * 2, 1, 1, 11, 1, 0])
        self.assertEqual(last(*storm, shut()), [12 * 2 + 5 * 9, 4, 0, 12, 0, 5])

    def test_no_salt_water_comes_in(self):
        storm = [begins(10, 0, 60, 3, 100, 4), hour(0, 60, 1)]
        self.assertEqual(last(*storm, check(1, 0)), [200, 60])
        self.assertEqual(last(*storm, shut()), [0, 2, 0, 0])
        self.assertEqual(last(*storm, best()), [0, 1, 0, 0])

    def test_nothing_runs_out(self):
        storm = [begins(10, 5, 60, 0, 100, 4), hour(0, 0, 1)]
        self.assertEqual(last(*storm, check(1, 0)), [-6, 0, 2])
        self.assertEqual(last(*storm, shut()), [0, 2, 0, 0])

    def test_a_width_of_0_is_as_best(self):
        storm = [begins(30, 10, 20, 12, 0, 5), hour(0, 15, 10), hour(3, 60, 2)]
        self.assertEqual(last(*storm, shut()), [10 * 10 + 3 * 2, 4, 0, 10, 0, 3])
        self.assertEqual(last(*storm, best()), last(*storm, shut()))


class TheGateIsToldAllTheSame(unittest.TestCase):
    def test_every_plan_counts_open_and_shut(self):
        for hours in range(7):
            storm = [begins(30, 10, 40, 12, 50, 7), *[hour(0, 60, 3)] * hours]
            with self.subTest(hours=hours):
                self.assertEqual(last(*storm, shut()), [0, 2 ** hours] + [0, 0] * hours)

    def test_pumped_now_or_later(self):
        storm = [begins(30, 0, 30, 12, 100, 9), hour(5, 0, 1), hour(5, 60, 1)]
        self.assertEqual(last(*storm, shut()), [10, 6 * 4, 0, 5, 0, 5])

    def test_pumped_for_nothing(self):
        storm = [begins(30, 10, 25, 12, 100, 9), hour(0, 0, 0)]
        self.assertEqual(last(*storm, shut()), [0, 8 * 2, 0, 5])

    def test_the_earliest_has_all_gates_shut(self):
        storm = [begins(10, 0, 8, 3, 100, 9), hour(0, 0, 4), hour(2, 0, 4), hour(0, 0, 4)]
        self.assertEqual(last(*storm, shut()), [16, 2 * 8, 0, 2, 0, 2, 0, 0])


class NoPlan(unittest.TestCase):
    def test_too_high_without_the_gate(self):
        storm = [begins(40, 0, 20, 12, 100, 5), hour(0, 10, 1)]
        self.assertEqual(last(*storm, best()), [0, 1, 1, 0])
        self.assertEqual(last(*storm, shut()), [-6])

    def test_too_low_without_the_gate(self):
        storm = [begins(5, 10, 60, 3, 100, 4), hour(0, 12, 1)]
        self.assertEqual(last(*storm, best()), [28, 1, 1, 0])
        self.assertEqual(last(*storm, shut()), [-6])

    def test_one_measure_too_many_for_the_pumps(self):
        self.assertEqual(last(begins(30, 0, 18, 12, 100, 5), hour(0, 0, 1), shut()), [12, 2, 0, 12])
        self.assertEqual(last(begins(30, 0, 17, 12, 100, 5), hour(0, 0, 1), shut()), [-6])

    def test_in_a_later_hour(self):
        storm = [begins(30, 0, 30, 2, 100, 5), *[hour(2, 0, 1)] * 5]
        self.assertEqual(last(*storm, hour(2, 0, 1), shut()), [12, 64] + [0, 2] * 6)
        self.assertEqual(last(*storm, hour(3, 0, 1), shut()), [-6])

    def test_together_they_bear_what_the_pumps_alone_do_not(self):
        storm = [begins(40, 0, 20, 5, 15, 0), hour(0, 0, 2)]
        self.assertEqual(last(*storm, best()), [10, 1, 1, 5])
        self.assertEqual(last(*storm, shut()), [-6])


class AtALinesBeginning(unittest.TestCase):
    def test_no_call_ahead(self):
        self.assertEqual(told(shut()), [[0, 1]])

    def test_hours_alone(self):
        self.assertEqual(last(hour(0, 0, 9), shut()), [0, 2, 0, 0])
        self.assertEqual(last(hour(1, 0, 9), shut()), [-6])
        self.assertEqual(last(*[hour(0, 0, 9)] * 6, shut()), [0, 64] + [0, 0] * 6)

    def test_no_hours_told(self):
        self.assertEqual(last(begins(30, 0, 60, 12, 100, 5), shut()), [0, 1])
        self.assertEqual(last(begins(60, 0, 30, 12, 100, 5), shut()), [0, 1])
        self.assertEqual(last(begins(30, 0, 60, 12, 100, 5), hour(9, 9, 9), begins(1, 0, 9, 9, 9, 9), shut()), [0, 1])


class AllStaysAsItWas(unittest.TestCase):
    def test_best_and_check_still_have_the_gate(self):
        answered = told(
            begins(30, 10, 20, 12, 100, 5), hour(0, 15, 10), best(), check(1, 0),
            shut(), best(), check(1, 0), shut(), hour(0, 0, 0),
        )
        self.assertEqual(answered[2:], [
            [0, 1, 1, 0], [0, 15], [100, 2, 0, 10], [0, 1, 1, 0], [0, 15], [100, 2, 0, 10], [1],
        ])

    def test_behind_a_refusal_of_its_own(self):
        storm = [begins(5, 10, 60, 3, 100, 4), hour(0, 12, 1)]
        answered = told(*storm, shut(), shut(), best(), check(1, 0), hour(0, 0, 0))
        self.assertEqual(answered[2:], [[-6], [-6], [28, 1, 1, 0], [28, 12], [1]])

    def test_behind_refused_calls(self):
        answered = told(
            begins(30, 10, 20, 12, 100, 5), hour(0, 15, 10), shut(),
            begins(30, 10, 20, 13, 100, 5), shut(), hour(0, 101, 0), shut(), check(2, 0), shut(),
        )
        self.assertEqual(answered[2:], [[100, 2, 0, 10], *[[-1], [100, 2, 0, 10]] * 3])

    def test_behind_a_seventh_hour(self):
        answered = told(begins(30, 0, 30, 2, 100, 5), *[hour(2, 0, 1)] * 7, shut())
        self.assertEqual(answered[-2:], [[-5], [12, 64] + [0, 2] * 6])


class AgainstAnotherWay(unittest.TestCase):
    def test_every_plan_tried(self):
        chance = random.Random(4)
        answered = {"refused": 0, "refused alone": 0, "as best": 0, "other": 0}
        for number in range(400):
            storm, hours = storm_by_chance(chance, 3), hours_by_chance(chance, 3)
            rows = [begins(*storm), *[hour(*numbers) for numbers in hours]]
            with self.subTest(storm=storm, hours=hours):
                tried = shut_by_every_plan(storm, hours)
                whole, answer = told(*rows, best(), shut())[-2:]
                self.assertEqual(answer, tried)
                self.assertTrue(answer == [-6] or whole != [-6] and whole[0] <= answer[0])
            if answer == [-6]:
                answered["refused" if whole == [-6] else "refused alone"] += 1
            else:
                answered["as best" if answer == whole else "other"] += 1
        self.assertGreater(min(answered.values()), 20, answered)


if __name__ == "__main__":
    unittest.main()
