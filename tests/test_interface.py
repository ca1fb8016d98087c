"""The interface: how calls and answers stand in their lists, and that nothing is kept or changed."""

import unittest

from longdeed.desk import answers

POINT, BEHIND = 1, 2

# All seven calls, on two steps; each call, and what is answered of it, as numbers.
CALLS = [0, 8, 0, 10, 2, 0, 1, 10, 1, 0,
         5,
         1,
         2, 0, 0, 1, 1,
         1,
         3, 65536,
         1,
         2, 1, 0, 1, 0,
         3, 0,
         1,
         2, 0, 0, 9, 1,
         4,
         6, 0,
         6, 1,
         6, 2,
         5]
ANSWERS = [2, 0, 0,
           2, 0, 0,
           4, 1, 0, 0, 1,
           2, 0, 1,
           4, 1, 0, 1, 1,
           2, 0, -22,
           2, 0, -11,
           2, 0, 1,
           2, 0, 1,
           4, 1, 1, 0, 1,
           2, 0, -2,
           2, 0, -11,
           4, 1, 1, 1, 1,
           4, 1, 1, 0, 0,
           2, 0, -22,
           2, 0, 1]

# The same, on the point and one behind it, with the greatest numbers among them.
GREATEST = 9223372036854775807
POINT_CALLS = [0, 8, 0, 65535, 8, 1, 1, 65535, 8, 2,
               6, GREATEST,
               1,
               4,
               2, GREATEST, GREATEST, GREATEST, GREATEST,
               2, 0, 0, GREATEST, 1,
               2, 0, 0, 1, 1,
               3, GREATEST,
               3, 65535,
               6, 0,
               0, 4, GREATEST, GREATEST, GREATEST, GREATEST,
               5,
               0, 4, 0, 1, 1, 0,
               4,
               5]
POINT_ANSWERS = [2, 0, 0,
                 2, 0, -22,
                 4, 1, 0, 0, 1,
                 2, 0, -16,
                 2, 0, -22,
                 2, 0, -2,
                 2, 0, 1,
                 2, 0, -22,
                 2, 0, 0,
                 4, 1, 1, 0, 1,
                 2, 0, -22,
                 2, 0, 0,
                 2, 0, 0,
                 2, 0, 0,
                 2, 0, 3]


class InterfaceTest(unittest.TestCase):

    def test_how_calls_and_answers_stand(self):
        self.assertEqual(answers(CALLS), ANSWERS)
        self.assertEqual(answers(POINT_CALLS), POINT_ANSWERS)

    def test_a_refused_start_alone(self):
        self.assertEqual(answers([0, 0]), [2, 0, -22])

    def test_a_start_that_comes_again(self):
        self.assertEqual(answers([0, 0, 0, 4, 0, 1, 1, 0, 0, 4, 0, 0, 1, 0, 1]),
                         [2, 0, -22, 2, 0, 0, 2, 0, -22, 4, 1, 0, 0, 1])

    def test_a_start_of_32_and_of_40_steps(self):
        one = [0, 65535, 8, 0]
        self.assertEqual(answers([0, 128] + one * 32 + [1]), [2, 0, 0, 4, 1, 0, 0, 1])
        self.assertEqual(answers([0, 160] + one * 40), [2, 0, -22])

    def test_what_is_handed_in_is_not_changed(self):
        for calls in (CALLS, POINT_CALLS):
            handed = list(calls)
            answers(handed)
            self.assertEqual(handed, calls)

    def test_nothing_is_kept(self):
        first = answers(list(CALLS))
        first.append(7)
        self.assertEqual(answers(list(CALLS)), ANSWERS)
        self.assertEqual(answers([0, 4, 0, 1, 1, 0, 1]), [2, 0, 0, 4, 1, 0, 0, 1])

    def test_whole_numbers_in_a_list(self):
        for calls in (CALLS, POINT_CALLS):
            told = answers(list(calls))
            self.assertIs(list, type(told))
            self.assertEqual({int}, {type(number) for number in told})

    def test_three_thousand_calls(self):
        calls = [0, 8, 0, 1, 1, POINT, 1, 1, 1, BEHIND, 1, 2, 0, 0, 1, 1]
        told = answers(calls + [1, 3, 1] * 1498 + [1])
        self.assertEqual(told[11:16], [4, 1, 0, 1, 1])
        self.assertEqual(told[-5:], [4, 1, 0, 1, 1499])

    def test_three_thousand_calls_that_ask(self):
        told = answers([0, 4, 0, 1, 1, 0, 1] + [4, 5, 6, 0] * 999 + [5])
        self.assertEqual(told[:19], [2, 0, 0, 4, 1, 0, 0, 1, 2, 0, 0, 2, 0, 1, 4, 1, 1, 0, 0])
        self.assertEqual(told[-14:], [2, 0, -11, 2, 0, 1, 4, 1, 1, 0, 0, 2, 0, 1])


if __name__ == "__main__":
    unittest.main()
