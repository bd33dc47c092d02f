"""Promise 2 of needs: how high the water has to be let stand at the least."""

import random
import unittest

from lines import begins, best, check, hour, last, needs, shut, still, told
from tried import hours_by_chance, needed_by_every_plan, needed_by_rising, storm_by_chance


class TheLeast(unittest.TestCase):
    def test_above_the_high_that_is_told(self):
        storm = [begins(30, 0, 30, 0, 0, 0), hour(5, 0, 0)]
        self.assertEqual(last(*storm, best()), [-6])
        self.assertEqual(last(*storm, needs()), [35])

    def test_below_the_high_that_is_told(self):
        self.assertEqual(last(begins(30, 0, 60, 0, 0, 0), hour(5, 0, 0), needs()), [35])
        self.assertEqual(last(begins(30, 0, 36, 0, 0, 0), hour(5, 0, 0), needs()), [35])

    def test_the_high_that_is_told(self):
        self.assertEqual(last(begins(30, 0, 35, 0, 0, 0), hour(5, 0, 0), needs()), [35])

    def test_the_low_that_is_told(self):
        for high in (15, 16, 60):
            self.assertEqual(last(begins(30, 15, high, 12, 20, 0), hour(5, 0, 1), needs()), [15])

    def test_a_low_of_0(self):
        self.assertEqual(last(begins(30, 0, 60, 0, 100, 0), hour(5, 0, 1), needs()), [0])

    def test_the_low_is_what_hinders(self):
        # Out to 5 it would be too low: it stays at 30, or the pumps do it.
        self.assertEqual(last(begins(30, 10, 60, 0, 100, 0), hour(0, 5, 1), needs()), [30])
        self.assertEqual(last(begins(30, 10, 60, 12, 100, 0), hour(0, 5, 1), needs()), [18])
        self.assertEqual(last(begins(30, 5, 60, 12, 100, 0), hour(0, 5, 1), needs()), [5])

    def test_gate_and_pumps_together(self):
        self.assertEqual(last(begins(40, 0, 60, 5, 15, 0), hour(0, 0, 2), needs()), [20])
        self.assertEqual(last(begins(40, 0, 60, 5, 0, 0), hour(0, 0, 2), needs()), [35])
        self.assertEqual(last(begins(40, 0, 60, 0, 15, 0), hour(0, 0, 2), needs()), [25])

    def test_salt_water_where_it_would_stand_too_low(self):
        self.assertEqual(last(begins(5, 10, 10, 0, 100, 4), hour(0, 12, 1), needs()), [12])
        self.assertEqual(last(begins(5, 10, 10, 0, 6, 4), hour(0, 12, 1), needs()), [11])
        self.assertEqual(last(begins(5, 10, 60, 12, 100, 4), hour(0, 12, 1), needs()), [10])

    def test_what_it_costs_is_not_looked_at(self):
        for salt, price in ((0, 0), (0, 100), (100, 0), (100, 100)):
            with self.subTest(salt=salt, price=price):
                self.assertEqual(last(begins(30, 0, 40, 12, 0, salt), hour(5, 0, price), needs()), [23])
                self.assertEqual(last(begins(5, 10, 60, 1, 100, salt), hour(0, 12, price), needs()), [11])


class OverSeveralHours(unittest.TestCase):
    def test_the_highest_of_them(self):
        for rains in ((0, 20, 0), (20, 0, 0), (0, 0, 20)):
            peak = {0: 35, 1: 30, 2: 25}[rains.index(20)]
            with self.subTest(rains=rains):
                storm = [begins(20, 0, 60, 5, 0, 0), *[hour(rain, 0, 9) for rain in rains]]
                self.assertEqual(last(*storm, needs()), [peak])

    def test_first_higher_to_come_lower_behind_it(self):
        # From 16 the second hour is at 21 or too low at 9; from 17 it is at 10.
        storm = [begins(16, 10, 60, 0, 12, 9), hour(0, 17, 1), hour(5, 0, 1)]
        self.assertEqual(last(*storm, needs()), [17])

    def test_behind_a_flood_the_first_hour_is_the_highest(self):
        storm = [begins(2, 10, 60, 0, 100, 9), hour(0, 50, 1), *[hour(0, 10, 1)] * 3]
        self.assertEqual(last(*storm, needs()), [50])

    def test_six_hours(self):
        self.assertEqual(last(begins(0, 0, 0, 0, 0, 0), *[hour(10, 0, 1)] * 6, needs()), [60])
        self.assertEqual(last(begins(0, 0, 0, 4, 0, 0), *[hour(10, 0, 1)] * 6, needs()), [36])
        self.assertEqual(last(begins(0, 0, 0, 4, 6, 0), *[hour(10, 0, 1)] * 6, needs()), [0])


class NoHours(unittest.TestCase):
    def test_the_low_that_is_told(self):
        for low, high in ((0, 0), (0, 60), (20, 40), (40, 40), (60, 60)):
            for stands in (0, 30, 60):
                with self.subTest(low=low, high=high, stands=stands):
                    self.assertEqual(last(begins(stands, low, high, 5, 50, 10), needs()), [low])

    def test_no_hours_any_more(self):
        self.assertEqual(last(begins(30, 0, 60, 0, 0, 0), hour(5, 0, 0), begins(30, 7, 60, 0, 0, 0), needs()), [7])

    def test_no_call_ahead(self):
        self.assertEqual(told(needs()), [[0]])

    def test_hours_alone(self):
        self.assertEqual(last(hour(0, 100, 0), needs()), [0])
        self.assertEqual(last(hour(1, 0, 0), needs()), [1])
        self.assertEqual(last(hour(30, 0, 0), hour(30, 0, 0), needs()), [60])
        self.assertEqual(last(hour(30, 0, 0), hour(30, 0, 0), hour(1, 0, 0), needs()), [-6])


class Sixty(unittest.TestCase):
    def test_as_high_as_it_can_be_let_stand(self):
        self.assertEqual(last(begins(60, 0, 0, 0, 0, 0), hour(0, 0, 0), needs()), [60])
        self.assertEqual(last(begins(60, 0, 60, 1, 0, 0), hour(1, 0, 0), needs()), [60])
        self.assertEqual(last(begins(0, 60, 60, 0, 60, 0), hour(0, 60, 0), needs()), [60])

    def test_not_with_sixty(self):
        self.assertEqual(last(begins(60, 0, 0, 0, 0, 0), hour(1, 0, 0), needs()), [-6])
        self.assertEqual(last(begins(60, 0, 60, 1, 0, 0), hour(2, 0, 0), needs()), [-6])
        self.assertEqual(last(begins(0, 60, 60, 0, 100, 0), hour(0, 61, 0), needs()), [-6])

    def test_not_with_sixty_in_a_later_hour(self):
        storm = [begins(30, 0, 10, 0, 0, 0), *[hour(6, 0, 0)] * 5]
        self.assertEqual(last(*storm, needs()), [60])
        self.assertEqual(last(*storm, hour(0, 0, 0), needs()), [60])
        self.assertEqual(last(*storm, hour(1, 0, 0), needs()), [-6])

    def test_too_low_whatever_is_done(self):
        self.assertEqual(last(begins(5, 10, 10, 12, 4, 0), hour(0, 60, 0), needs()), [-6])
        self.assertEqual(last(begins(5, 10, 10, 12, 5, 0), hour(0, 60, 0), needs()), [10])
        self.assertEqual(last(begins(5, 10, 60, 12, 100, 0), hour(4, 0, 0), needs()), [-6])
        self.assertEqual(last(begins(5, 10, 60, 12, 100, 0), hour(4, 0, 0), hour(30, 0, 0), needs()), [-6])


class HeightAtTheBeginning(unittest.TestCase):
    def test_above_what_is_needed(self):
        self.assertEqual(last(begins(50, 0, 10, 12, 0, 0), hour(0, 0, 1), needs()), [38])
        self.assertEqual(last(begins(60, 0, 10, 12, 60, 0), hour(0, 20, 1), needs()), [8])
        self.assertEqual(last(begins(60, 0, 0, 0, 60, 0), hour(0, 0, 1), needs()), [0])

    def test_below_the_low(self):
        self.assertEqual(last(begins(5, 10, 60, 0, 100, 0), hour(5, 0, 0), needs()), [10])
        self.assertEqual(last(begins(5, 10, 60, 0, 100, 0), hour(6, 0, 0), needs()), [11])


class AllStaysAsItWas(unittest.TestCase):
    def test_the_high_is_the_one_that_is_told(self):
        answered = told(
            begins(30, 0, 30, 1, 0, 0), hour(5, 0, 1), best(), shut(), still(), check(0, 1),
            needs(), best(), shut(), still(), check(0, 1), hour(0, 0, 0),
        )
        self.assertEqual(answered[2:], [[-6], [-6], [-6], [-6, 0, 3], [34], [-6], [-6], [-6], [-6, 0, 3], [1]])
        answered = told(
            begins(30, 0, 60, 1, 0, 0), hour(5, 0, 1), best(), check(0, 0),
            needs(), best(), check(0, 0), shut(), still(), hour(0, 0, 0),
        )
        self.assertEqual(answered[2:], [
            [0, 2, 0, 0], [0, 35], [34], [0, 2, 0, 0], [0, 35], [0, 2, 0, 0], [0, 2, 0, 0], [1],
        ])

    def test_behind_a_refusal_of_its_own(self):
        answered = told(begins(60, 0, 60, 1, 0, 0), hour(2, 0, 0), needs(), best(), check(0, 1), hour(0, 0, 0))
        self.assertEqual(answered[2:], [[-6], [-6], [-6, 0, 3], [1]])

    def test_behind_shut_and_still(self):
        answered = told(begins(40, 0, 20, 5, 15, 0), hour(0, 0, 2), shut(), still(), needs())
        self.assertEqual(answered[2:], [[-6], [-6], [20]])

    def test_behind_refused_calls(self):
        for refused, refusal in (
            (begins(61, 0, 60, 12, 100, 0), -1), (begins(30, 9, 8, 12, 100, 0), -1), (hour(31, 0, 0), -1),
            (hour(5, 101, 0), -1), (check(0), -1), (check(2, 0), -1),
        ):
            with self.subTest(refused=refused):
                answered = told(begins(30, 0, 30, 1, 0, 0), hour(5, 0, 1), refused, needs())
                self.assertEqual(answered[2:], [[refusal], [34]])

    def test_behind_a_seventh_hour(self):
        answered = told(begins(0, 0, 0, 4, 0, 0), *[hour(10, 0, 1)] * 7, needs())
        self.assertEqual(answered[-2:], [[-5], [36]])


class AgainstOtherWays(unittest.TestCase):
    def test_every_plan_tried(self):
        chance = random.Random(6)
        answered = {"refused": 0, "the low": 0, "as told": 0, "above": 0, "below": 0}
        for number in range(400):
            storm, hours = storm_by_chance(chance, 3), hours_by_chance(chance, 3)
            with self.subTest(storm=storm, hours=hours):
                answer = last(begins(*storm), *[hour(*numbers) for numbers in hours], needs())
                self.assertEqual(answer, needed_by_every_plan(storm, hours))
            low, high = storm[1:3]
            if answer == [-6]:
                kind = "refused"
            elif answer == [low]:
                kind = "the low"
            else:
                kind = "as told" if answer == [high] else "above" if answer > [high] else "below"
            answered[kind] += 1
        self.assertGreater(min(answered.values()), 8, answered)

    def test_a_high_as_needed_and_one_lower(self):
        chance = random.Random(7)
        for number in range(200):
            storm, hours = storm_by_chance(chance, 12), hours_by_chance(chance, 6)
            rows = [hour(*numbers) for numbers in hours]
            with self.subTest(storm=storm, hours=hours):
                stands, low, high, *others = storm
                answer = last(begins(*storm), *rows, needs())[0]
                if answer > -6:
                    self.assertNotEqual(last(begins(stands, low, answer, *others), *rows, best()), [-6])
                if answer > low:
                    self.assertEqual(last(begins(stands, low, answer - 1, *others), *rows, best()), [-6])
                if answer == -6:
                    self.assertEqual(last(begins(stands, low, 60, *others), *rows, best()), [-6])

    def test_six_hours_with_one_high_behind_another(self):
        chance = random.Random(8)
        for number in range(30):
            low = chance.randint(0, 20)
            pumps, width = chance.randint(0, 12), chance.randint(0, 30)
            storm = (chance.randint(0, 60), low, chance.randint(low, 60), pumps, width, 1)
            hours = [(chance.randint(0, 30), chance.randint(0, 100), 1) for place in range(6)]
            with self.subTest(storm=storm, hours=hours):
                answer = last(begins(*storm), *[hour(*numbers) for numbers in hours], needs())
                self.assertEqual(answer, needed_by_rising(storm, hours))


if __name__ == "__main__":
    unittest.main()
