"""Point 2: lb_next; and of point 6 what it and the answers turn on."""

import unittest

from helper import BACK, DONE, HOW, NEXT, NOTHING, NOT_TOLD, ON, ONE, UNDONE, ZERO
from helper import ask, do, ill, start, step, tick, undo, well

POINT, BEHIND = 1, 2


class GoingOnTest(unittest.TestCase):

    def test_one_step(self):
        self.assertEqual(ask(start(step()), NEXT, NEXT, well(0, 1), NEXT, HOW),
                         [ZERO, do(0, 1), NOTHING, ONE, NOTHING, DONE])

    def test_needs_not_done_yet(self):
        self.assertEqual(ask(start(step(), step([0])), NEXT, NEXT, well(0, 1), NEXT, NEXT, well(1, 1), HOW),
                         [ZERO, do(0, 1), NOTHING, ONE, do(1, 1), NOTHING, ONE, DONE])

    def test_all_needs_must_be_done(self):
        told = ask(start(step(), step(), step([0, 1])), NEXT, NEXT, NEXT, well(1, 1), NEXT, well(0, 1), NEXT)
        self.assertEqual(told, [ZERO, do(0, 1), do(1, 1), NOTHING, ONE, NOTHING, ONE, do(2, 1)])

    def test_a_need_that_was_answered_ill_is_not_done(self):
        told = ask(start(step(tries=3), step([0])), NEXT, ill(0, 1), NEXT, NEXT, well(0, 2), NEXT)
        self.assertEqual(told, [ZERO, do(0, 1), ONE, do(0, 2), NOTHING, ONE, do(1, 1)])

    def test_several_at_once_the_first_first(self):
        told = ask(start(step(), step(), step()), NEXT, NEXT, NEXT, NEXT)
        self.assertEqual(told, [ZERO, do(0, 1), do(1, 1), do(2, 1), NOTHING])

    def test_all_32_at_once(self):
        told = ask(start(*[step()] * 32), *[NEXT] * 33)
        self.assertEqual(told, [ZERO] + [do(i, 1) for i in range(32)] + [NOTHING])

    def test_the_last_of_32_needs_all_the_others(self):
        told = ask(start(*[step()] * 31, step(range(31))), *[NEXT] * 31, *[well(i, 1) for i in range(30)],
                   NEXT, well(30, 1), NEXT, well(31, 1), HOW)
        self.assertEqual(told[32:], [ONE] * 30 + [NOTHING, ONE, do(31, 1), ONE, DONE])

    def test_a_step_without_needs_in_the_middle(self):
        told = ask(start(step(), step([0]), step(), step([1, 2])), NEXT, NEXT, NEXT, well(0, 1), NEXT,
                   well(2, 1), NEXT, well(1, 1), NEXT, well(3, 1), HOW)
        self.assertEqual(told, [ZERO, do(0, 1), do(2, 1), NOTHING, ONE, do(1, 1),
                                ONE, NOTHING, ONE, do(3, 1), ONE, DONE])

    def test_a_step_that_may_be_told_again_comes_first(self):
        told = ask(start(step(wait=5, tries=8), step()), NEXT, tick(5), NEXT, NEXT, ill(1, 1), tick(5), NEXT, NEXT)
        self.assertEqual(told, [ZERO, do(0, 1), ON, do(0, 2), do(1, 1), ONE, ON, do(0, 3), do(1, 2)])

    def test_wait_just_not_over_and_just_over(self):
        told = ask(start(step(wait=10)), NEXT, tick(9), NEXT, tick(1), NEXT, NEXT)
        self.assertEqual(told, [ZERO, do(0, 1), ON, NOTHING, ON, do(0, 2), NOTHING])

    def test_the_shortest_and_the_longest_wait(self):
        self.assertEqual(ask(start(step(wait=1)), NEXT, tick(0), NEXT, tick(1), NEXT),
                         [ZERO, do(0, 1), ON, NOTHING, ON, do(0, 2)])
        self.assertEqual(ask(start(step(wait=65535)), NEXT, tick(65534), NEXT, tick(1), NEXT),
                         [ZERO, do(0, 1), ON, NOTHING, ON, do(0, 2)])

    def test_wait_counts_from_the_last_telling(self):
        told = ask(start(step(wait=10, tries=3)), tick(7), NEXT, tick(15), NEXT, tick(9), NEXT, tick(1), NEXT)
        self.assertEqual(told, [ZERO, ON, do(0, 1), ON, do(0, 2), ON, NOTHING, ON, do(0, 3)])

    def test_each_step_has_its_own_wait(self):
        told = ask(start(step(wait=10), step(wait=3)), NEXT, NEXT, tick(3), NEXT, NEXT)
        self.assertEqual(told, [ZERO, do(0, 1), do(1, 1), ON, do(1, 2), NOTHING])

    def test_answered_ill_it_is_told_again_at_once(self):
        told = ask(start(step(tries=3)), NEXT, ill(0, 1), NEXT, NEXT, ill(0, 2), NEXT, NEXT)
        self.assertEqual(told, [ZERO, do(0, 1), ONE, do(0, 2), NOTHING, ONE, do(0, 3), NOTHING])

    def test_an_earlier_one_answered_ill_does_not_free_the_last(self):
        told = ask(start(step(wait=5, tries=3)), NEXT, tick(5), NEXT, ill(0, 1), NEXT, tick(5), NEXT)
        self.assertEqual(told, [ZERO, do(0, 1), ON, do(0, 2), ONE, NOTHING, ON, do(0, 3)])

    def test_a_step_done_is_not_told_again(self):
        told = ask(start(step(wait=5), step()), NEXT, NEXT, well(0, 1), tick(5), NEXT, NEXT)
        self.assertEqual(told, [ZERO, do(0, 1), do(1, 1), ONE, ON, NOTHING, NOTHING])

    def test_a_step_done_by_an_earlier_telling_is_not_told_again(self):
        told = ask(start(step(wait=5), step([0])), NEXT, tick(5), NEXT, well(0, 1), tick(5), NEXT, NEXT)
        self.assertEqual(told, [ZERO, do(0, 1), ON, do(0, 2), ONE, ON, do(1, 1), NOTHING])

    def test_done_says_nothing_more(self):
        told = ask(start(step(wait=5)), NEXT, well(0, 1), NEXT, tick(60000), NEXT)
        self.assertEqual(told, [ZERO, do(0, 1), ONE, NOTHING, DONE, NOTHING])


class GivenUpTest(unittest.TestCase):

    def test_as_many_ill_answers_as_tries(self):
        for tries in range(1, 9):
            calls = [start(step(tries=tries), step())]
            expected = [ZERO]
            for k in range(1, tries + 1):
                calls += [HOW, NEXT, ill(0, k)]
                expected += [ON, do(0, k), ONE]
            self.assertEqual(ask(*calls, HOW), expected + [UNDONE])

    def test_the_last_try_just_over(self):
        told = ask(start(step(wait=5, tries=2)), NEXT, tick(5), NEXT, tick(4), tick(1), NEXT, HOW)
        self.assertEqual(told, [ZERO, do(0, 1), ON, do(0, 2), ON, BACK, undo(0, 1), BACK])

    def test_not_behind_fewer_tellings_than_tries(self):
        told = ask(start(step(wait=5, tries=3)), NEXT, ill(0, 1), NEXT, ill(0, 2), tick(100), NEXT)
        self.assertEqual(told, [ZERO, do(0, 1), ONE, do(0, 2), ONE, ON, do(0, 3)])

    def test_not_while_the_last_one_is_not_over(self):
        told = ask(start(step(wait=5, tries=2)), NEXT, tick(5), NEXT, ill(0, 1), HOW, NEXT, well(0, 2), HOW)
        self.assertEqual(told, [ZERO, do(0, 1), ON, do(0, 2), ONE, ON, NOTHING, ONE, DONE])

    def test_not_if_it_was_done(self):
        told = ask(start(step(wait=5, tries=2), step([0])), NEXT, tick(5), NEXT, well(0, 1), ill(0, 2), HOW,
                   tick(50), NEXT)
        self.assertEqual(told, [ZERO, do(0, 1), ON, do(0, 2), ONE, ONE, ON, ON, do(1, 1)])

    def test_a_step_of_kind_0_is_given_up_with_a_telling_not_answered(self):
        told = ask(start(step(wait=5, tries=2)), NEXT, tick(5), NEXT, ill(0, 2), HOW, NEXT)
        self.assertEqual(told, [ZERO, do(0, 1), ON, do(0, 2), ONE, BACK, undo(0, 1)])

    def test_the_others_are_not_told_to_be_done_any_more(self):
        told = ask(start(step(tries=1), step(), step()), NEXT, ill(0, 1), HOW, NEXT)
        self.assertEqual(told, [ZERO, do(0, 1), ONE, UNDONE, NOTHING])

    def test_the_point_with_every_telling_answered_ill(self):
        told = ask(start(step(tries=2, kind=POINT)), NEXT, ill(0, 1), HOW, NEXT, ill(0, 2), HOW, NEXT)
        self.assertEqual(told, [ZERO, do(0, 1), ONE, ON, do(0, 2), ONE, UNDONE, NOTHING])

    def test_the_points_last_try_not_answered(self):
        told = ask(start(step(wait=5, tries=1, kind=POINT)), NEXT, tick(5), NEXT, tick(5), NEXT, ill(0, 3), HOW, NEXT)
        self.assertEqual(told, [ZERO, do(0, 1), ON, do(0, 2), ON, do(0, 3), ONE, ON, do(0, 4)])

    def test_the_points_last_try_answered_ill_behind_its_wait(self):
        told = ask(start(step(), step([0], wait=5, tries=1, kind=POINT)), NEXT, well(0, 1), NEXT, tick(5),
                   ill(1, 1), HOW, NEXT)
        self.assertEqual(told, [ZERO, do(0, 1), ONE, do(1, 1), ON, ONE, BACK, undo(0, 1)])

    def test_an_earlier_try_of_the_point_not_answered(self):
        told = ask(start(step(wait=5, tries=2, kind=POINT)), NEXT, tick(5), NEXT, ill(0, 2), HOW, NEXT)
        self.assertEqual(told, [ZERO, do(0, 1), ON, do(0, 2), ONE, ON, do(0, 3)])

    def test_an_earlier_try_of_the_point_answered_ill_late(self):
        told = ask(start(step(wait=5, tries=2, kind=POINT)), NEXT, tick(5), NEXT, ill(0, 2), HOW, ill(0, 1), HOW)
        self.assertEqual(told, [ZERO, do(0, 1), ON, do(0, 2), ONE, ON, ONE, UNDONE])

    def test_a_point_told_oftener_than_tries_is_never_given_up(self):
        told = ask(start(step(wait=5, tries=1, kind=POINT)), NEXT, tick(5), NEXT, ill(0, 1), ill(0, 2), HOW,
                   tick(60000), NEXT, well(0, 3), HOW)
        self.assertEqual(told, [ZERO, do(0, 1), ON, do(0, 2), ONE, ONE, ON, ON, do(0, 3), ONE, DONE])

    def test_kind_2_told_a_hundred_times(self):
        calls = [start(step(kind=POINT), step([0], wait=5, tries=1, kind=BEHIND)), NEXT, well(0, 1)]
        expected = [ZERO, do(0, 1), ONE]
        for k in range(1, 101):
            if k % 2 == 1:
                calls += [NEXT, NEXT, ill(1, k)]
                expected += [do(1, k), NOTHING, ONE]
            else:
                calls += [NEXT, NEXT, tick(5)]
                expected += [do(1, k), NOTHING, ON]
        self.assertEqual(ask(*calls, NEXT, well(1, 101), HOW), expected + [do(1, 101), ONE, DONE])

    def test_kind_2_with_just_as_many_ill_answers_as_tries(self):
        told = ask(start(step(kind=POINT), step([0], tries=2, kind=BEHIND)), NEXT, well(0, 1),
                   NEXT, ill(1, 1), NEXT, ill(1, 2), HOW, NEXT)
        self.assertEqual(told, [ZERO, do(0, 1), ONE, do(1, 1), ONE, do(1, 2), ONE, ON, do(1, 3)])


class GoingBackTest(unittest.TestCase):

    # Three steps, one behind another; the last one is given up.
    chain = [start(step(wait=5), step([0], wait=5), step([1], wait=5, tries=1)),
             NEXT, well(0, 1), NEXT, well(1, 1), NEXT]

    def behind_chain(self, *calls):
        told = ask(*self.chain, *calls)
        self.assertEqual(told[:6], [ZERO, do(0, 1), ONE, do(1, 1), ONE, do(2, 1)])
        return told[6:]

    def test_the_last_first_each_only_behind_those_that_need_it(self):
        told = self.behind_chain(tick(5), NEXT, NEXT, well(2, 1, 1), NEXT, NEXT, well(1, 1, 1), NEXT, NEXT,
                                 HOW, well(0, 1, 1), NEXT, HOW)
        self.assertEqual(told, [BACK, undo(2, 1), NOTHING, ONE, undo(1, 1), NOTHING, ONE, undo(0, 1), NOTHING,
                                BACK, ONE, NOTHING, UNDONE])

    def test_a_step_whose_tellings_were_all_answered_ill_is_clean(self):
        self.assertEqual(self.behind_chain(ill(2, 1), HOW, NEXT, well(1, 1, 1), NEXT, well(0, 1, 1), HOW),
                         [ONE, BACK, undo(1, 1), ONE, undo(0, 1), ONE, UNDONE])

    def test_answered_ill_late_it_need_not_be_undone(self):
        self.assertEqual(self.behind_chain(tick(5), ill(2, 1), NEXT), [BACK, ONE, undo(1, 1)])

    def test_answered_ill_late_behind_it_was_told_to_be_undone(self):
        self.assertEqual(self.behind_chain(tick(5), NEXT, ill(2, 1), NEXT, tick(5), NEXT),
                         [BACK, undo(2, 1), ONE, undo(1, 1), BACK, undo(1, 2)])

    def test_done_late_it_must_be_undone(self):
        self.assertEqual(self.behind_chain(tick(5), well(2, 1), HOW, NEXT, NEXT, well(2, 1, 1), NEXT),
                         [BACK, ONE, BACK, undo(2, 1), NOTHING, ONE, undo(1, 1)])

    def test_one_telling_ill_and_one_not_answered_is_not_clean(self):
        told = ask(start(step(wait=5, tries=2)), NEXT, tick(5), NEXT, ill(0, 2), NEXT, ill(0, 1), HOW)
        self.assertEqual(told, [ZERO, do(0, 1), ON, do(0, 2), ONE, undo(0, 1), ONE, UNDONE])

    def test_one_telling_ill_and_one_well_is_not_clean(self):
        told = ask(start(step(wait=5, tries=2), step(tries=1)), NEXT, NEXT, ill(0, 1), NEXT, well(0, 2),
                   ill(1, 1), HOW, NEXT)
        self.assertEqual(told, [ZERO, do(0, 1), do(1, 1), ONE, do(0, 2), ONE, ONE, BACK, undo(0, 1)])

    def test_wait_just_not_over_and_just_over(self):
        self.assertEqual(self.behind_chain(tick(5), NEXT, tick(4), NEXT, tick(1), NEXT, NEXT),
                         [BACK, undo(2, 1), BACK, NOTHING, BACK, undo(2, 2), NOTHING])

    def test_answered_ill_it_is_told_to_be_undone_again_at_once(self):
        self.assertEqual(self.behind_chain(tick(5), NEXT, ill(2, 1, 1), NEXT, NEXT, ill(2, 2, 1), HOW, NEXT),
                         [BACK, undo(2, 1), ONE, undo(2, 2), NOTHING, ONE, BACK, undo(2, 3)])

    def test_told_to_be_undone_oftener_than_tries(self):
        calls = []
        expected = []
        for k in range(1, 21):
            calls += [NEXT, ill(2, k, 1)]
            expected += [undo(2, k), ONE]
        self.assertEqual(self.behind_chain(tick(5), *calls, NEXT), [BACK] + expected + [undo(2, 21)])

    def test_several_at_once_the_last_first(self):
        told = ask(start(step(), step(), step(), step(tries=1)), NEXT, NEXT, NEXT, NEXT, ill(3, 1),
                   NEXT, NEXT, NEXT, NEXT, well(1, 1, 1), NEXT, well(2, 1, 1), HOW, well(0, 1, 1), HOW)
        self.assertEqual(told[5:], [ONE, undo(2, 1), undo(1, 1), undo(0, 1), NOTHING, ONE, NOTHING, ONE,
                                    BACK, ONE, UNDONE])

    def test_a_step_that_was_never_told_is_clean(self):
        told = ask(start(step(), step(tries=1), step([0, 1])), NEXT, NEXT, well(0, 1), ill(1, 1), NEXT, NEXT)
        self.assertEqual(told[3:], [ONE, ONE, undo(0, 1), NOTHING])

    def test_one_that_cannot_be_told_lets_those_before_it_go_ahead(self):
        # 3 needs 1 alone, so while 3 is being undone 2 and 0 may be undone and 1 may not.
        told = ask(start(step(), step(wait=5), step(), step([1], wait=5), step([1], tries=1)),
                   NEXT, NEXT, NEXT, well(0, 1), well(1, 1), well(2, 1), NEXT, NEXT, well(3, 1), ill(4, 1),
                   NEXT, NEXT, NEXT, NEXT, tick(5), NEXT, NEXT, well(3, 1, 1), NEXT)
        self.assertEqual(told[11:], [undo(3, 1), undo(2, 1), undo(0, 1), NOTHING, BACK, undo(3, 2), NOTHING,
                                     ONE, undo(1, 1)])

    def test_all_that_need_it_must_be_clean(self):
        told = ask(start(step(), step([0]), step([0]), step([0], tries=1)),
                   NEXT, well(0, 1), NEXT, NEXT, NEXT, well(1, 1), ill(3, 1),
                   NEXT, NEXT, NEXT, well(1, 1, 1), NEXT, ill(2, 1), NEXT)
        self.assertEqual(told[6:], [ONE, ONE, undo(2, 1), undo(1, 1), NOTHING, ONE, NOTHING, ONE, undo(0, 1)])

    def test_from_a_point_given_up(self):
        told = ask(start(step(), step(), step([0, 1], tries=1, kind=POINT), step([2], kind=BEHIND)),
                   NEXT, NEXT, well(0, 1), well(1, 1), NEXT, ill(2, 1), HOW,
                   NEXT, NEXT, well(0, 1, 1), well(1, 1, 1), HOW)
        self.assertEqual(told[5:], [do(2, 1), ONE, BACK, undo(1, 1), undo(0, 1), ONE, ONE, UNDONE])

    def test_undone_says_nothing_more(self):
        told = ask(start(step(tries=1, wait=5)), NEXT, tick(5), NEXT, well(0, 1, 1), NEXT, tick(60000), NEXT)
        self.assertEqual(told, [ZERO, do(0, 1), BACK, undo(0, 1), ONE, NOTHING, UNDONE, NOTHING])

    def test_nothing_is_told_to_be_undone_while_it_goes_on(self):
        told = ask(start(step(), step()), NEXT, well(0, 1), well(0, 1, 1), NEXT, NEXT)
        self.assertEqual(told, [ZERO, do(0, 1), ONE, NOT_TOLD, do(1, 1), NOTHING])


if __name__ == "__main__":
    unittest.main()
