"""The interface: how calls and answers stand in their lists, and that nothing is kept or changed."""

import unittest

from longdeed.desk import answers

POINT, BEHIND = 1, 2

# Two steps; each call, and what is answered of it, as numbers.
CALLS = [0, 8, 0, 10, 2, 0, 1, 10, 1, 0,
         1,
         2, 0, 0, 1, 1,
         1,
         3, 65536,
         1,
         2, 1, 0, 1, 0,
         3, 0,
         1,
         2, 0, 0, 9, 1]
ANSWERS = [2, 0, 0,
           4, 1, 0, 0, 1,
           2, 0, 1,
           4, 1, 0, 1, 1,
           2, 0, -22,
           2, 0, -11,
           2, 0, 1,
           2, 0, 1,
           4, 1, 1, 0, 1,
           2, 0, -2]


class InterfaceTest(unittest.TestCase):

    def test_how_calls_and_answers_stand(self):
        self.assertEqual(answers(CALLS), ANSWERS)

    def test_a_refused_start_alone(self):
        self.assertEqual(answers([0, 0]), [2, 0, -22])

    def test_a_start_that_comes_again(self):
        self.assertEqual(answers([0, 0, 0, 4, 0, 1, 1, 0, 0, 4, 0, 0, 1, 0, 1]),
                         [2, 0, -22, 2, 0, 0, 2, 0, -22, 4, 1, 0, 0, 1])

    def test_a_start_of_32_and_of_40_steps(self):
        one = [0, 65535, 8, 0]
        self.assertEqual(answers([0, 128] + one * 32 + [1]), [2, 0, 0, 4, 1, 0, 0, 1])
        self.assertEqual(answers([0, 160] + one * 40), [2, 0, -22])

    def test_what_is_handed_in_is_not_changed(self):
        calls = list(CALLS)
        answers(calls)
        self.assertEqual(calls, CALLS)

    def test_nothing_is_kept(self):
        first = answers(list(CALLS))
        first.append(7)
        self.assertEqual(answers(list(CALLS)), ANSWERS)
        self.assertEqual(answers([0, 4, 0, 1, 1, 0, 1]), [2, 0, 0, 4, 1, 0, 0, 1])

    def test_whole_numbers_in_a_list(self):
        told = answers(list(CALLS))
        self.assertIs(list, type(told))
        self.assertEqual({int}, {type(number) for number in told})

    def test_three_thousand_calls(self):
        calls = [0, 8, 0, 1, 1, POINT, 1, 1, 1, BEHIND, 1, 2, 0, 0, 1, 1]
        told = answers(calls + [1, 3, 1] * 1498 + [1])
        self.assertEqual(told[11:16], [4, 1, 0, 1, 1])
        self.assertEqual(told[-5:], [4, 1, 0, 1, 1499])


if __name__ == "__main__":
    unittest.main()
