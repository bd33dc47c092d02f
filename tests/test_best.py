"""Promise 2 of best: the cheapest plan, how many cost as much, the earliest of them."""

import random
import time
import unittest

from lines import begins, best, check, hour, last, told
from tried import by_counting, by_every_plan, hours_by_chance, storm_by_chance


class CheapestWay(unittest.TestCase):
    def test_the_gate_alone(self):
        self.assertEqual(last(begins(30, 10, 20, 12, 100, 5), hour(0, 15, 10), best()), [0, 1, 1, 0])

    def test_the_gate_alone_at_ebb_and_shut_at_flood(self):
        storm = [begins(30, 10, 30, 12, 20, 5), hour(5, 12, 9), hour(15, 60, 9), hour(10, 25, 9)]
        # At 35 it runs out to 15, then 30 at flood, then 40 and out to 25.
        self.assertEqual(last(*storm, best()), [0, 1, 1, 0, 0, 0, 1, 0])

    def test_the_pumps_alone(self):
        self.assertEqual(last(begins(30, 10, 20, 12, 100, 5), hour(0, 60, 3), best()), [30, 1, 0, 10])

    def test_the_pumps_alone_while_power_is_cheap(self):
        # 10 measures must be out behind the second hour, at most 6 in each.
        storm = [begins(20, 0, 20, 6, 100, 50), hour(0, 90, 2), hour(10, 90, 7)]
        self.assertEqual(last(*storm, best()), [6 * 2 + 4 * 7, 1, 0, 6, 0, 4])
        storm = [begins(20, 0, 30, 6, 100, 50), hour(10, 90, 7), hour(5, 90, 2)]
        self.assertEqual(last(*storm, best()), [5 * 2, 1, 0, 0, 0, 5])

    def test_both_together_bear_what_neither_does_alone(self):
        storm = [begins(40, 0, 20, 5, 15, 0), hour(0, 0, 2)]
        self.assertEqual(last(*storm, best()), [10, 1, 1, 5])
        self.assertEqual(last(*storm, check(0, 5)), [-6, 0, 3])
        self.assertEqual(last(*storm, check(1, 0)), [-6, 0, 3])

    def test_pumps_ahead_of_an_hour_for_which_the_gate_is_not_wide_enough(self):
        # 4 are pumped in the cheap hour, 3 run out, and 3 more are pumped.
        storm = [begins(10, 0, 10, 4, 3, 9), hour(0, 50, 1), hour(10, 0, 8)]
        self.assertEqual(last(*storm, best()), [4 + 3 * 8, 1, 0, 4, 1, 3])

    def test_salt_water_where_it_would_stand_too_low(self):
        self.assertEqual(last(begins(5, 10, 60, 3, 100, 4), hour(0, 12, 1), best()), [28, 1, 1, 0])
        self.assertEqual(last(begins(5, 10, 60, 3, 6, 4), hour(0, 12, 1), best()), [24, 1, 1, 0])

    def test_salt_water_no_more_often_than_it_must(self):
        storm = [begins(10, 10, 60, 0, 100, 4), hour(0, 30, 1), hour(0, 14, 1)]
        self.assertEqual(last(*storm, best()), [0, 1, 0, 0, 0, 0])
        # At 30 behind the first hour the gate lets out for nothing in the second.
        storm = [begins(8, 10, 60, 0, 100, 4), hour(0, 30, 1), hour(0, 14, 1)]
        self.assertEqual(last(*storm, best()), [88, 2, 1, 0, 0, 0])
        storm = [begins(8, 10, 60, 0, 100, 4), hour(0, 30, 1), hour(0, 44, 1)]
        self.assertEqual(last(*storm, best()), [88, 1, 1, 0, 0, 0])

    def test_a_sea_as_high_leaves_only_the_pumps(self):
        # At 34 nothing runs either way: both gates do, and 4 are pumped.
        storm = [begins(30, 20, 30, 12, 100, 1), hour(4, 34, 100)]
        self.assertEqual(last(*storm, best()), [400, 2, 0, 4])


class HowManyAndTheEarliest(unittest.TestCase):
    def test_pumped_now_or_later(self):
        # Ten in all, from five to ten of them at once; the gate does nothing.
        storm = [begins(30, 0, 30, 12, 0, 0), hour(5, 0, 1), hour(5, 0, 1)]
        self.assertEqual(last(*storm, best()), [10, 6 * 4, 0, 5, 0, 5])

    def test_a_gate_that_does_nothing_counts_twice(self):
        self.assertEqual(last(begins(30, 0, 60, 0, 0, 0), hour(0, 90, 1), best()), [0, 2, 0, 0])
        self.assertEqual(last(begins(30, 0, 60, 0, 90, 0), hour(0, 30, 1), best()), [0, 2, 0, 0])
        self.assertEqual(last(begins(30, 0, 60, 0, 90, 1), hour(0, 31, 1), best()), [0, 1, 0, 0])

    def test_the_gate_stands_ahead_of_what_is_pumped(self):
        # Shut with 5 to 12 pumped, or open with 0 to 12, all for nothing.
        self.assertEqual(last(begins(30, 0, 25, 12, 5, 0), hour(0, 0, 0), best()), [0, 8 + 13, 0, 5])

    def test_an_earlier_hour_stands_ahead_of_a_later(self):
        # The gate lets out 10 in one hour at least; earliest is the later hour.
        storm = [begins(30, 0, 30, 0, 10, 0), hour(0, 0, 1), hour(10, 0, 1)]
        self.assertEqual(last(*storm, best()), [0, 3, 0, 0, 1, 0])

    def test_less_is_pumped_early_where_it_costs_as_much(self):
        storm = [begins(10, 0, 60, 3, 0, 0), *[hour(0, 0, 0)] * 2]
        self.assertEqual(last(*storm, best()), [0, 64, 0, 0, 0, 0])
        storm = [begins(10, 0, 6, 3, 0, 0), hour(0, 0, 4), hour(0, 0, 4)]
        self.assertEqual(last(*storm, best()), [-6])
        storm = [begins(8, 0, 6, 3, 0, 0), hour(0, 0, 4), hour(2, 0, 4)]
        self.assertEqual(last(*storm, best()), [16, 2 * 4, 0, 2, 0, 2])

    def test_dearer_plans_do_not_count(self):
        self.assertEqual(last(begins(30, 0, 60, 12, 0, 0), hour(0, 0, 1), best()), [0, 2, 0, 0])


class NoPlan(unittest.TestCase):
    def test_too_much_rain(self):
        self.assertEqual(last(begins(60, 0, 60, 0, 0, 0), hour(1, 0, 0), best()), [-6])
        self.assertEqual(last(begins(60, 0, 60, 1, 0, 0), hour(1, 0, 0), best()), [0, 2, 0, 1])

    def test_too_low(self):
        self.assertEqual(last(begins(5, 10, 60, 12, 4, 0), hour(0, 60, 0), best()), [-6])
        self.assertEqual(last(begins(5, 10, 60, 12, 5, 0), hour(0, 60, 0), best()), [0, 1, 1, 0])

    def test_a_later_hour_alone_can_not_be(self):
        storm = [begins(30, 0, 60, 1, 0, 0), *[hour(6, 0, 0)] * 5]
        self.assertEqual(last(*storm, best())[0], 0)
        self.assertEqual(last(*storm, hour(6, 0, 0), best())[0], 0)
        self.assertEqual(last(*storm, hour(7, 0, 0), best()), [-6])

    def test_the_first_hour_alone_can_not_be(self):
        self.assertEqual(last(begins(60, 0, 30, 12, 0, 0), hour(0, 0, 0), hour(0, 0, 0), best()), [-6])

    def test_all_stays_as_it_was(self):
        answered = told(begins(60, 0, 60, 1, 0, 0), hour(2, 0, 0), best(), best(), check(0, 1), hour(0, 0, 0))
        self.assertEqual(answered[2:], [[-6], [-6], [-6, 0, 3], [1]])


class EdgesOfTheStorm(unittest.TestCase):
    def test_no_hours_told(self):
        self.assertEqual(last(best()), [0, 1])
        self.assertEqual(last(begins(30, 0, 60, 12, 100, 5), best()), [0, 1])

    def test_no_hours_told_and_the_height_outside(self):
        self.assertEqual(last(begins(60, 0, 30, 12, 100, 5), best()), [0, 1])
        self.assertEqual(last(begins(0, 10, 30, 12, 100, 5), best()), [0, 1])

    def test_the_height_at_the_beginning_is_not_looked_at(self):
        self.assertEqual(last(begins(35, 0, 30, 12, 0, 5), hour(0, 0, 2), best()), [10, 2, 0, 5])
        self.assertEqual(last(begins(5, 10, 30, 12, 0, 5), hour(7, 0, 2), best()), [0, 2, 0, 0])

    def test_heights_from_0_to_60(self):
        self.assertEqual(last(begins(60, 0, 0, 0, 60, 5), hour(0, 0, 2), best()), [0, 1, 1, 0])
        self.assertEqual(last(begins(0, 60, 60, 0, 60, 5), hour(0, 60, 2), best()), [300, 1, 1, 0])

    def test_the_storm_is_afterwards_as_it_was(self):
        answered = told(
            begins(30, 0, 30, 12, 0, 0), hour(5, 0, 1), best(), best(), check(0, 5), hour(5, 0, 1), best(),
        )
        self.assertEqual(answered[2], [5, 2, 0, 5])
        self.assertEqual(answered[3:], [[5, 2, 0, 5], [5, 30], [1], [10, 24, 0, 5, 0, 5]])


class AgainstOtherWays(unittest.TestCase):
    def best_of(self, storm, hours):
        return last(begins(*storm), *[hour(*numbers) for numbers in hours], best())

    def test_every_plan_tried(self):
        chance = random.Random(1)
        answered = {"refused": 0, "several": 0, "one": 0}
        for number in range(400):
            storm, hours = storm_by_chance(chance, 3), hours_by_chance(chance, 3)
            with self.subTest(storm=storm, hours=hours):
                tried = by_every_plan(storm, hours)
                self.assertEqual(self.best_of(storm, hours), tried)
            kind = "refused" if tried == [-6] else "several" if tried[1] > 1 else "one"
            answered[kind] += 1
        self.assertGreater(min(answered.values()), 30)

    def test_every_plan_of_six_hours_tried(self):
        chance = random.Random(2)
        for number in range(8):
            storm = (chance.randint(5, 15), 3, 20, 1, chance.randint(0, 6), 1)
            hours = [(chance.randint(0, 3), chance.randint(0, 30), chance.randint(0, 2)) for place in range(6)]
            with self.subTest(storm=storm, hours=hours):
                self.assertEqual(self.best_of(storm, hours), by_every_plan(storm, hours))

    def test_plans_of_six_hours_counted(self):
        chance = random.Random(3)
        for number in range(12):
            storm = (chance.randint(0, 60), 0, chance.randint(20, 60), 12, chance.randint(0, 100), chance.randint(0, 3))
            hours = [(chance.randint(0, 30), chance.randint(0, 60), chance.randint(0, 2)) for place in range(6)]
            with self.subTest(storm=storm, hours=hours):
                answer = self.best_of(storm, hours)
                self.assertEqual(answer[:2], by_counting(storm, hours))
                if answer != [-6]:
                    rows = [begins(*storm), *[hour(*numbers) for numbers in hours]]
                    self.assertEqual(last(*rows, check(*answer[2:]))[0], answer[0])


class ManyPlans(unittest.TestCase):
    def six_times(self, storm, hours):
        """The one answer of best, asked for six times in one line."""
        rows = [begins(*storm), *[hour(*numbers) for numbers in hours]]
        began = time.monotonic()
        answered = told(*rows, *[best()] * 6)[-6:]
        self.assertLess(time.monotonic() - began, 5)
        self.assertEqual(answered, [answered[0]] * 6)
        return answered[0]

    def test_six_hours_with_all_pumps_and_the_same_prices(self):
        for price in (0, 1, 100):
            # The gate bears all of the rain; then it bears none of it.
            for storm, rain, cost in (((30, 0, 60, 12, 100, 0), 12, 0), ((30, 0, 30, 12, 0, 0), 6, 36 * price)):
                hours = [(rain, 30, price)] * 6
                with self.subTest(storm=storm, price=price):
                    answer = self.six_times(storm, hours)
                    self.assertEqual(answer[0], cost)
                    self.assertEqual(answer[:2], by_counting(storm, hours))

    def test_all_pumps_in_every_hour_are_the_only_way(self):
        rows = [begins(60, 0, 60, 12, 0, 0), *[hour(12, 0, 100)] * 6]
        self.assertEqual(last(*rows, best()), [12 * 6 * 100, 2 ** 6] + [0, 12] * 6)

    def test_every_plan_of_five_hours_can_be_and_costs_nothing(self):
        rows = [begins(60, 0, 60, 12, 0, 0), *[hour(0, 0, 0)] * 5]
        self.assertEqual(last(*rows, best()), [0, 26 ** 5] + [0, 0] * 5)


if __name__ == "__main__":
    unittest.main()
