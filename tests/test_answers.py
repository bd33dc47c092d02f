"""The interface: one list of calls in, one list of what they answer out."""

import unittest

from lines import begins, best, check, hour, told
from stormgate.polder import answers

STORM = begins(30, 0, 30, 12, 0, 0)


class Answers(unittest.TestCase):
    def test_one_call(self):
        self.assertEqual(answers([0, 30, 20, 40, 5, 50, 10]), [1, 0])
        self.assertEqual(answers([0, 30, 41, 40, 5, 50, 10]), [1, -1])
        self.assertEqual(answers([1, 0, 0, 0]), [1, 0])
        self.assertEqual(answers([2, 0]), [1, 0])
        self.assertEqual(answers([2, 2, 0, 0]), [1, -1])
        self.assertEqual(answers([3]), [2, 0, 1])

    def test_several_calls_with_refusals_between(self):
        calls = [
            0, 30, 0, 30, 12, 0, 0,
            1, 5, 0, 1,
            0, 61, 0, 30, 12, 0, 0,
            2, 2, 0, 5,
            1, 31, 0, 1,
            2, 3, 0, 5, 0,
            2, 2, 0, 4,
            1, 5, 0, 1,
            3,
            2, 4, 0, 5, 1, 6,
        ]
        self.assertEqual(answers(calls), [
            1, 0,
            1, 0,
            1, -1,
            2, 5, 30,
            1, -1,
            1, -1,
            3, -6, 0, 3,
            1, 1,
            6, 10, 24, 0, 5, 0, 5,
            3, 11, 30, 29,
        ])

    def test_the_refusal_of_best_is_alone(self):
        self.assertEqual(answers([1, 1, 0, 0, 3, 3]), [1, 0, 1, -6, 1, -6])

    def test_plans_of_every_length(self):
        for length in range(15):
            calls = [2, length, *[0] * length, 3]
            self.assertEqual(answers(calls), [1, 0 if length == 0 else -1, 2, 0, 1])

    def test_sixty_calls(self):
        answered = told(STORM, *[hour(5, 0, 1)] * 3, *[check(0, 5, 0, 5, 0, 5)] * 50, *[best()] * 6)
        self.assertEqual(answered[4:54], [[15, 30, 30, 30]] * 50)
        self.assertEqual(len(set(map(tuple, answered[54:]))), 1)

    def test_a_list_of_whole_numbers_is_given_back(self):
        answered = answers([*STORM, *hour(5, 0, 1), *check(0, 5), *check(0, 4), *best()])
        self.assertIs(type(answered), list)
        self.assertEqual({type(number) for number in answered}, {int})


class HandedIn(unittest.TestCase):
    def test_the_list_is_afterwards_as_it_was(self):
        calls = [*STORM, *hour(5, 0, 1), *hour(31, 0, 1), *check(0, 5), *check(0, 5, 1), *best(), *STORM, *best()]
        before = list(calls)
        answered = answers(calls)
        self.assertEqual(calls, before)
        self.assertIsNot(answered, calls)

    def test_two_lists_do_not_touch_one_another(self):
        first = [*STORM, *hour(5, 0, 1), *hour(5, 0, 1), *best()]
        second = [*hour(0, 0, 0), *check(0, 0), *check(0, 1), *best()]
        once = answers(first)
        other = answers(second)
        self.assertEqual(once, [1, 0, 1, 0, 1, 1, 6, 10, 24, 0, 5, 0, 5])
        self.assertEqual(other, [1, 0, 2, 0, 0, 3, -6, 0, 1, 4, 0, 2, 0, 0])
        self.assertEqual(answers(first), once)
        self.assertEqual(answers(second), other)

    def test_what_was_given_back_can_be_changed(self):
        calls = [*STORM, *hour(5, 0, 1), *best()]
        once = answers(calls)
        kept = list(once)
        once.clear()
        self.assertEqual(answers(calls), kept)


if __name__ == "__main__":
    unittest.main()
