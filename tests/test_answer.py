"""Point 3: lb_answer."""

import unittest

from helper import BACK, DONE, HOW, NEXT, NOTHING, NOT_TOLD, ON, ONE, UNDONE, WRONG, ZERO
from helper import ask, do, ill, start, step, tick, undo, well

POINT, BEHIND = 1, 2
GREATEST = 2 ** 63 - 1

# A point done, and a step of kind 2 behind it; then that one told ten times, one not answered behind another.
TEN = [start(step(kind=POINT), step([0], wait=5, tries=1, kind=BEHIND)), NEXT, well(0, 1)]
TEN += [NEXT, tick(5)] * 9 + [NEXT]


def behind_ten(*calls):
    return ask(*TEN, *calls)[len(TEN):]


class RefusalTest(unittest.TestCase):

    def of_one(self, *calls):
        """Two steps, the first told once to be done."""
        return ask(start(step(), step([0])), NEXT, *calls)[2:]

    def test_no_such_step(self):
        self.assertEqual(self.of_one(well(2, 1), ill(2, 1), well(32, 1), well(GREATEST, 1), [2, 2, 1, 1, 1]),
                         [WRONG] * 5)

    def test_the_last_of_32_steps_and_one_more(self):
        told = ask(start(*[step()] * 32), *[NEXT] * 32, well(31, 1), well(32, 1))
        self.assertEqual(told[33:], [ONE, WRONG])

    def test_what_above_1(self):
        self.assertEqual(self.of_one([2, 0, 2, 1, 1], [2, 0, 3, 1, 0], [2, 0, GREATEST, 1, 1]), [WRONG] * 3)

    def test_ok_above_1(self):
        self.assertEqual(self.of_one([2, 0, 0, 1, 2], [2, 0, 0, 1, GREATEST]), [WRONG] * 2)

    def test_it_was_not_told_so(self):
        self.assertEqual(self.of_one(well(0, 0), well(0, 2), ill(0, 2), well(0, GREATEST), well(1, 1), ill(1, 1),
                                     well(0, 1, 1), ill(0, 1, 1), ill(0, 0, 1)), [NOT_TOLD] * 9)

    def test_not_told_to_be_undone_so(self):
        told = ask(start(step(wait=5, tries=1)), NEXT, tick(5), NEXT, well(0, 0, 1), well(0, 2, 1), ill(0, 2, 1),
                   well(0, 2), well(0, 1, 1))
        self.assertEqual(told[4:], [NOT_TOLD] * 4 + [ONE])

    def test_wrong_numbers_are_named_ahead_of_not_told(self):
        self.assertEqual(self.of_one([2, 2, 0, 0, 0], [2, 0, 2, 9, 1], [2, 0, 0, 9, 2], [2, 1, 1, 0, 2]), [WRONG] * 4)

    def test_not_told_is_named_ahead_of_nothing_new(self):
        told = ask(start(step(wait=5, tries=1)), NEXT, tick(5), NEXT, well(0, 1, 1), HOW, well(0, 2), well(0, 2, 1),
                   well(0, 0), [2, 0, 0, 1, 2])
        self.assertEqual(told[4:], [ONE, UNDONE, NOT_TOLD, NOT_TOLD, NOT_TOLD, WRONG])

    def test_a_refusal_changes_nothing(self):
        self.assertEqual(self.of_one(ill(0, 2), [2, 0, 0, 1, 2], [2, 0, 2, 1, 0], ill(2, 1), NEXT, well(0, 1), NEXT),
                         [NOT_TOLD, WRONG, WRONG, WRONG, NOTHING, ONE, do(1, 1)])


class UpTo8Test(unittest.TestCase):

    def test_well_and_once_more(self):
        told = ask(start(step(), step()), NEXT, well(0, 1), well(0, 1), ill(0, 1), NEXT, NEXT)
        self.assertEqual(told, [ZERO, do(0, 1), ONE, ZERO, ZERO, do(1, 1), NOTHING])

    def test_ill_and_once_more(self):
        told = ask(start(step(tries=3)), NEXT, ill(0, 1), ill(0, 1), well(0, 1), HOW, NEXT, NEXT)
        self.assertEqual(told, [ZERO, do(0, 1), ONE, ZERO, ZERO, ON, do(0, 2), NOTHING])

    def test_ill_once_more_behind_the_next_one_was_told(self):
        told = ask(start(step(tries=3)), NEXT, ill(0, 1), NEXT, ill(0, 1), well(0, 1), NEXT, well(0, 2), HOW)
        self.assertEqual(told, [ZERO, do(0, 1), ONE, do(0, 2), ZERO, ZERO, NOTHING, ONE, DONE])

    def test_an_earlier_one_answered_ill_behind_the_next_one_was_told(self):
        told = ask(start(step(wait=5, tries=2)), NEXT, tick(5), NEXT, ill(0, 1), ill(0, 1), NEXT, ill(0, 2), HOW)
        self.assertEqual(told, [ZERO, do(0, 1), ON, do(0, 2), ONE, ZERO, NOTHING, ONE, UNDONE])

    def test_an_earlier_one_answered_well_behind_the_next_one_was_told(self):
        told = ask(start(step(wait=5, tries=2)), NEXT, tick(5), NEXT, well(0, 1), HOW, well(0, 1))
        self.assertEqual(told, [ZERO, do(0, 1), ON, do(0, 2), ONE, DONE, ZERO])

    def test_another_telling_of_a_step_done_is_still_answered(self):
        told = ask(start(step(wait=5, tries=3)), NEXT, tick(5), NEXT, tick(5), NEXT, well(0, 2), HOW,
                   well(0, 1), well(0, 1), ill(0, 3), ill(0, 3), HOW, NEXT)
        self.assertEqual(told[6:], [ONE, DONE, ONE, ZERO, ONE, ZERO, DONE, NOTHING])

    def test_a_late_answer_while_it_goes_back(self):
        told = ask(start(step(wait=5, tries=1)), NEXT, tick(5), well(0, 1), ill(0, 1), HOW, NEXT, well(0, 1, 1), HOW)
        self.assertEqual(told, [ZERO, do(0, 1), BACK, ONE, ZERO, BACK, undo(0, 1), ONE, UNDONE])

    def test_the_eighth_still_counts_for_itself(self):
        self.assertEqual(behind_ten(ill(1, 8), ill(1, 8), well(1, 8), HOW, NEXT, well(1, 7), HOW),
                         [ONE, ZERO, ZERO, ON, NOTHING, ONE, DONE])

    def test_the_eighth_well_though_the_step_was_done(self):
        self.assertEqual(behind_ten(well(1, 10), HOW, well(1, 8), well(1, 8), ill(1, 7), ill(1, 7)),
                         [ONE, DONE, ONE, ZERO, ONE, ZERO])

    def test_each_of_the_first_eight(self):
        for k in range(1, 9):
            self.assertEqual(behind_ten(ill(1, k), well(1, k), HOW), [ONE, ZERO, ON])
            self.assertEqual(behind_ten(well(1, k), ill(1, k), HOW), [ONE, ZERO, DONE])


class Above8Test(unittest.TestCase):

    def test_the_last_one_answered_ill(self):
        self.assertEqual(behind_ten(NEXT, ill(1, 10), NEXT, NEXT), [NOTHING, ONE, do(1, 11), NOTHING])

    def test_the_last_one_answered_already(self):
        self.assertEqual(behind_ten(ill(1, 10), ill(1, 10), well(1, 10), HOW, NEXT),
                         [ONE, ZERO, ZERO, ON, do(1, 11)])

    def test_the_last_one_answered_well(self):
        self.assertEqual(behind_ten(well(1, 10), well(1, 10), ill(1, 10), HOW), [ONE, ZERO, ZERO, DONE])

    def test_not_the_last_one_ill(self):
        self.assertEqual(behind_ten(ill(1, 9), ill(1, 9), NEXT, HOW), [ZERO, ZERO, NOTHING, ON])

    def test_not_the_last_one_well(self):
        self.assertEqual(behind_ten(well(1, 9), HOW, well(1, 9), NEXT), [ONE, DONE, ZERO, NOTHING])

    def test_not_the_last_one_well_behind_the_same_one_ill(self):
        # The words let it: it isn't the last one any more, and ok isn't 0.
        self.assertEqual(behind_ten(ill(1, 10), NEXT, ill(1, 10), well(1, 10), HOW, well(1, 10)),
                         [ONE, do(1, 11), ZERO, ONE, DONE, ZERO])

    def test_the_step_was_done(self):
        self.assertEqual(behind_ten(well(1, 1), HOW, well(1, 9), ill(1, 9), well(1, 10), ill(1, 10)),
                         [ONE, DONE, ZERO, ZERO, ZERO, ZERO])

    def test_just_above_8(self):
        nine = TEN[:-2]
        self.assertEqual(ask(*nine, ill(1, 9), well(1, 9), HOW)[len(nine):], [ONE, ZERO, ON])
        self.assertEqual(ask(*nine, well(1, 8), well(1, 9), HOW)[len(nine):], [ONE, ZERO, DONE])

    def test_of_the_point(self):
        calls = [start(step(wait=5, tries=1, kind=POINT))] + [NEXT, tick(5)] * 9 + [NEXT]
        told = ask(*calls, ill(0, 9), ill(0, 10), well(0, 10), HOW, well(0, 9), HOW)
        self.assertEqual(told[len(calls):], [ZERO, ONE, ZERO, ON, ONE, DONE])

    def test_ill_frees_the_last_one_alone(self):
        self.assertEqual(behind_ten(tick(4), ill(1, 9), NEXT, tick(1), NEXT, ill(1, 10), NEXT),
                         [ON, ZERO, NOTHING, ON, do(1, 11), ZERO, NOTHING])


class ToBeUndoneTest(unittest.TestCase):

    # One step, given up with its telling not answered, then told twice to be undone, the first not answered.
    twice = [start(step(wait=5, tries=1)), NEXT, tick(5), NEXT, tick(5), NEXT]

    def behind_twice(self, *calls):
        told = ask(*self.twice, *calls)
        self.assertEqual(told[:6], [ZERO, do(0, 1), BACK, undo(0, 1), BACK, undo(0, 2)])
        return told[6:]

    def test_well_and_once_more(self):
        self.assertEqual(self.behind_twice(well(0, 2, 1), HOW, well(0, 2, 1), ill(0, 2, 1), HOW),
                         [ONE, UNDONE, ZERO, ZERO, UNDONE])

    def test_not_the_last_one_well(self):
        self.assertEqual(self.behind_twice(well(0, 1, 1), HOW, well(0, 2, 1), ill(0, 2, 1), well(0, 1, 1)),
                         [ONE, UNDONE, ZERO, ZERO, ZERO])

    def test_not_the_last_one_ill(self):
        self.assertEqual(self.behind_twice(ill(0, 1, 1), ill(0, 1, 1), NEXT, HOW), [ZERO, ZERO, NOTHING, BACK])

    def test_the_last_one_ill_and_once_more(self):
        self.assertEqual(self.behind_twice(ill(0, 2, 1), ill(0, 2, 1), HOW, NEXT, ill(0, 2, 1), NEXT),
                         [ONE, ZERO, BACK, undo(0, 3), ZERO, NOTHING])

    def test_well_behind_the_same_one_ill(self):
        # Of a telling to be undone only an ill answer can be nothing new, as long as it isn't undone.
        self.assertEqual(self.behind_twice(ill(0, 2, 1), well(0, 2, 1), HOW), [ONE, ONE, UNDONE])
        self.assertEqual(self.behind_twice(ill(0, 2, 1), NEXT, well(0, 2, 1), HOW), [ONE, undo(0, 3), ONE, UNDONE])

    def test_above_8(self):
        calls = [start(step(wait=5, tries=1)), NEXT, tick(5)] + [NEXT, tick(5)] * 9 + [NEXT]
        told = ask(*calls, ill(0, 9, 1), ill(0, 10, 1), ill(0, 10, 1), NEXT, well(0, 9, 1), HOW, well(0, 10, 1))
        self.assertEqual(told[len(calls):], [ZERO, ONE, ZERO, undo(0, 11), ONE, UNDONE, ZERO])

    def test_a_step_undone_whose_done_comes_late(self):
        self.assertEqual(self.behind_twice(well(0, 1, 1), well(0, 1), HOW, ill(0, 1), NEXT),
                         [ONE, ZERO, UNDONE, ZERO, NOTHING])

    def test_a_step_undone_whose_done_comes_late_while_others_are_not(self):
        told = ask(start(step(), step([0], wait=5, tries=1)), NEXT, well(0, 1), NEXT, tick(5), NEXT, well(1, 1, 1),
                   well(1, 1), HOW, NEXT, NEXT, well(0, 1, 1), HOW)
        self.assertEqual(told[4:], [BACK, undo(1, 1), ONE, ZERO, BACK, undo(0, 1), NOTHING, ONE, UNDONE])

    def test_done_while_it_is_being_undone(self):
        self.assertEqual(self.behind_twice(well(0, 1), HOW, NEXT, tick(5), NEXT, well(0, 3, 1), HOW),
                         [ONE, BACK, NOTHING, BACK, undo(0, 3), ONE, UNDONE])

    def test_undone_of_a_step_that_turns_out_clean(self):
        self.assertEqual(self.behind_twice(ill(0, 1), HOW, well(0, 1, 1), well(0, 1, 1), HOW),
                         [ONE, UNDONE, ONE, ZERO, UNDONE])


if __name__ == "__main__":
    unittest.main()
