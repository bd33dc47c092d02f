"""The interface: one list of calls in, one list of what they answer out."""

import time
import unittest

from lines import begins, best, check, hour, needs, shut, still, told
from stormgate.polder import answers
from tried import by_counting

STORM = begins(30, 0, 30, 12, 0, 0)


class Answers(unittest.TestCase):
    def test_one_call(self):
        self.assertEqual(answers([0, 30, 20, 40, 5, 50, 10]), [1, 0])
        self.assertEqual(answers([0, 30, 41, 40, 5, 50, 10]), [1, -1])
        self.assertEqual(answers([1, 0, 0, 0]), [1, 0])
        self.assertEqual(answers([2, 0]), [1, 0])
        self.assertEqual(answers([2, 2, 0, 0]), [1, -1])
        self.assertEqual(answers([3]), [2, 0, 1])
        self.assertEqual(answers([4]), [2, 0, 1])
        self.assertEqual(answers([5]), [2, 0, 1])
        self.assertEqual(answers([6]), [1, 0])

    def test_several_calls_with_refusals_between(self):
        calls = [
            0, 30, 0, 30, 12, 0, 0,
            1, 5, 0, 1,
            0, 61, 0, 30, 12, 0, 0,
            2, 2, 0, 5,
            1, 31, 0, 1,
            2, 3, 0, 5, 0,
            2, 2, 0, 4,
            1, 5, 0, 1,
            3,
            2, 4, 0, 5, 1, 6,
        ]
        self.assertEqual(answers(calls), [
            1, 0,
            1, 0,
            1, -1,
            2, 5, 30,
            1, -1,
            1, -1,
            3, -6, 0, 3,
            1, 1,
            6, 10, 24, 0, 5, 0, 5,
            3, 11, 30, 29,
        ])

    def test_the_refusal_of_best_is_alone(self):
        self.assertEqual(answers([1, 1, 0, 0, 3, 3]), [1, 0, 1, -6, 1, -6])

    def test_shut_still_and_needs(self):
        calls = [0, 30, 10, 20, 12, 100, 5, 1, 0, 15, 10, 6, 4, 5, 2, 2, 0, 9, 4, 3, 5]
        self.assertEqual(answers(calls), [
            1, 0,
            1, 0,
            1, 10,
            4, 100, 2, 0, 10,
            4, 0, 1, 1, 0,
            3, -6, 0, 3,
            4, 100, 2, 0, 10,
            4, 0, 1, 1, 0,
            4, 0, 1, 1, 0,
        ])

    def test_the_refusals_of_shut_still_and_needs_are_alone(self):
        self.assertEqual(answers([1, 30, 0, 0] * 3 + [4, 5, 6, 5, 4]), [1, 0, 1, 1, 1, 2] + [1, -6] * 5)

    def test_plans_of_every_length(self):
        for length in range(15):
            calls = [2, length, *[0] * length, 3]
            self.assertEqual(answers(calls), [1, 0 if length == 0 else -1, 2, 0, 1])

    def test_sixty_calls(self):
        answered = told(STORM, *[hour(5, 0, 1)] * 3, *[check(0, 5, 0, 5, 0, 5)] * 50, *[best()] * 6)
        self.assertEqual(answered[4:54], [[15, 30, 30, 30]] * 50)
        self.assertEqual(len(set(map(tuple, answered[54:]))), 1)

    def test_a_list_of_whole_numbers_is_given_back(self):
        answered = answers([*STORM, *hour(5, 0, 1), *check(0, 5), *check(0, 4), *best()])
        self.assertIs(type(answered), list)
        self.assertEqual({type(number) for number in answered}, {int})


class HandedIn(unittest.TestCase):
    def test_the_list_is_afterwards_as_it_was(self):
        calls = [
            *STORM, *hour(5, 0, 1), *hour(31, 0, 1), *check(0, 5), *check(0, 5, 1), *best(), *shut(), *still(),
            *needs(), *STORM, *best(), *shut(), *still(),
        ]
        before = list(calls)
        answered = answers(calls)
        self.assertEqual(calls, before)
        self.assertIsNot(answered, calls)

    def test_two_lists_do_not_touch_one_another(self):
        first = [*STORM, *hour(5, 0, 1), *hour(5, 0, 1), *best()]
        second = [*hour(0, 0, 0), *check(0, 0), *check(0, 1), *best()]
        once = answers(first)
        other = answers(second)
        self.assertEqual(once, [1, 0, 1, 0, 1, 1, 6, 10, 24, 0, 5, 0, 5])
        self.assertEqual(other, [1, 0, 2, 0, 0, 3, -6, 0, 1, 4, 0, 2, 0, 0])
        self.assertEqual(answers(first), once)
        self.assertEqual(answers(second), other)

    def test_a_second_list_begins_anew(self):
        calls = [*begins(40, 7, 20, 5, 15, 0), *hour(0, 0, 2), *best(), *shut(), *still(), *needs()]
        once = [1, 0, 1, 0, 4, 10, 1, 1, 5, 1, -6, 1, -6, 1, 20]
        for number in range(3):
            self.assertEqual(answers(calls), once)
            self.assertEqual(answers([4, 5, 6, 3]), [2, 0, 1, 2, 0, 1, 1, 0, 2, 0, 1])
            self.assertEqual(answers([1, 3, 0, 0, 4, 5, 6]), [1, 0, 1, -6, 1, -6, 1, 3])

    def test_what_was_given_back_can_be_changed(self):
        calls = [*STORM, *hour(5, 0, 1), *best(), *shut(), *still(), *needs()]
        once = answers(calls)
        kept = list(once)
        once.clear()
        self.assertEqual(answers(calls), kept)


class Longest(unittest.TestCase):
    def answered_at_once(self, storm, hours, calls):
        """What the calls answer behind six hours, within seconds."""
        began = time.monotonic()
        answered = told(begins(*storm), *[hour(*numbers) for numbers in hours], *calls)[7:]
        self.assertLess(time.monotonic() - began, 5)
        return answered

    def test_six_of_best_shut_and_still_and_one_of_needs(self):
        storm, hours = (30, 0, 30, 12, 6, 1), [(12, 0, 100)] * 6
        answered = self.answered_at_once(storm, hours, [best(), shut(), still()] * 2 + [needs()])
        # Of the 12 of each hour 6 run out and 6 are pumped, or all are pumped.
        whole = by_counting(storm, hours) + [1, 6] * 6
        self.assertEqual(whole[0], 6 * 6 * 100)
        self.assertEqual(answered, [whole, [7200, 64] + [0, 12] * 6, [-6]] * 2 + [[24]])

    def test_six_of_each(self):
        storm, hours = (60, 0, 60, 12, 100, 0), [(0, 60, 0)] * 6
        for call, answer in (
            (best(), by_counting(storm, hours)),
            (shut(), by_counting((60, 0, 60, 12, 0, 0), hours)),
            (still(), [0, 64]),
        ):
            with self.subTest(call=call):
                answered = self.answered_at_once(storm, hours, [call] * 6 + [needs()])
                # Pumped in all hours and the gate shut, it is 48 behind the first.
                self.assertEqual(answered, [answer + [0, 0] * 6] * 6 + [[48]])

    def test_sixty_calls(self):
        calls = [check(*[0, 0] * 6)] * 46 + [best(), shut(), still()] * 2 + [needs()]
        self.assertEqual(len(calls), 60 - 7)
        self.assertEqual(
            self.answered_at_once((10, 0, 10, 12, 0, 0), [(0, 0, 1)] * 6, calls),
            [[0] + [10] * 6] * 46 + [[0, 64] + [0] * 12] * 6 + [[0]],
        )


if __name__ == "__main__":
    unittest.main()
