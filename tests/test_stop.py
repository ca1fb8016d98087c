"""Point 5: lb_stop."""

import unittest

from helper import BACK, DONE, HOW, NEXT, NOTHING, ON, ONE, STOP, TOO_LATE, UNDONE, WRONG, ZERO
from helper import ask, do, ill, look, seen, start, step, tick, undo, well

POINT, BEHIND = 1, 2

# A step, the point, and a step behind it.
THREE = [start(step(wait=5, tries=2), step([0], wait=5, tries=2, kind=POINT), step([1], wait=5, tries=2, kind=BEHIND))]


def behind(first, *calls):
    """What these calls are answered behind the first ones."""
    return ask(*first, *calls)[len(first):]


class StopTest(unittest.TestCase):

    def test_at_the_very_beginning(self):
        self.assertEqual(ask(start(step()), STOP, HOW, NEXT), [ZERO, ZERO, UNDONE, NOTHING])

    def test_at_the_very_beginning_of_32_steps(self):
        self.assertEqual(ask(start(*[step()] * 32), STOP, HOW, NEXT), [ZERO, ZERO, UNDONE, NOTHING])

    def test_at_the_very_beginning_though_time_went(self):
        self.assertEqual(ask(start(step()), tick(65535), STOP, tick(0)), [ZERO, ON, ZERO, UNDONE])

    def test_told_and_not_answered(self):
        told = ask(start(step()), NEXT, STOP, HOW, NEXT, well(0, 1, 1), HOW)
        self.assertEqual(told, [ZERO, do(0, 1), ZERO, BACK, undo(0, 1), ONE, UNDONE])

    def test_told_twice_and_one_not_answered(self):
        told = ask(start(step(wait=5, tries=3)), NEXT, tick(5), NEXT, ill(0, 2), STOP, HOW, ill(0, 1), HOW, NEXT)
        self.assertEqual(told[4:], [ONE, ZERO, BACK, ONE, UNDONE, NOTHING])

    def test_answered_ill(self):
        told = ask(start(step(), step([0])), NEXT, ill(0, 1), STOP, HOW, NEXT)
        self.assertEqual(told, [ZERO, do(0, 1), ONE, ZERO, UNDONE, NOTHING])

    def test_done(self):
        told = ask(start(step(), step([0])), NEXT, well(0, 1), STOP, HOW, NEXT, NEXT, well(0, 1, 1), HOW)
        self.assertEqual(told, [ZERO, do(0, 1), ONE, ZERO, BACK, undo(0, 1), NOTHING, ONE, UNDONE])

    def test_done_in_one_step_and_not_answered_in_the_next(self):
        told = ask(start(step(), step([0])), NEXT, well(0, 1), NEXT, STOP, NEXT, NEXT, well(1, 1, 1), HOW, NEXT,
                   well(0, 1, 1), HOW)
        self.assertEqual(told[4:], [ZERO, undo(1, 1), NOTHING, ONE, BACK, undo(0, 1), ONE, UNDONE])

    def test_one_done_one_ill_one_not_answered_one_not_told(self):
        told = ask(start(step(), step(), step(), step([0, 1, 2])), NEXT, NEXT, NEXT, well(0, 1), ill(1, 1), STOP,
                   NEXT, NEXT, NEXT, well(2, 1, 1), HOW, well(0, 1, 1), HOW)
        self.assertEqual(told[6:], [ZERO, undo(2, 1), undo(0, 1), NOTHING, ONE, BACK, ONE, UNDONE])

    def test_nothing_is_told_to_be_done_any_more(self):
        told = ask(start(step(wait=5, tries=8), step(), step()), NEXT, STOP, tick(65535), NEXT, NEXT, ill(0, 1), HOW)
        self.assertEqual(told, [ZERO, do(0, 1), ZERO, BACK, undo(0, 1), NOTHING, ONE, UNDONE])

    def test_a_done_that_comes_late(self):
        told = ask(start(step()), NEXT, STOP, well(0, 1), HOW, NEXT, well(0, 1, 1), HOW)
        self.assertEqual(told, [ZERO, do(0, 1), ZERO, ONE, BACK, undo(0, 1), ONE, UNDONE])

    def test_all_done_late_is_not_done(self):
        told = ask(start(step(), step()), NEXT, NEXT, STOP, well(0, 1), well(1, 1), HOW, NEXT)
        self.assertEqual(told[3:], [ZERO, ONE, ONE, BACK, undo(1, 1)])

    def test_over_but_not_given_up(self):
        told = ask(start(step(wait=5, tries=2)), NEXT, tick(5), STOP, NEXT)
        self.assertEqual(told, [ZERO, do(0, 1), ON, ZERO, undo(0, 1)])

    def test_a_start_behind_it_goes_on_anew(self):
        told = ask(start(step()), NEXT, STOP, start(step()), HOW, NEXT, STOP, HOW)
        self.assertEqual(told, [ZERO, do(0, 1), ZERO, ZERO, ON, do(0, 1), ZERO, BACK])


class NotOnTest(unittest.TestCase):

    def test_back_by_a_stop(self):
        self.assertEqual(ask(start(step()), NEXT, STOP, STOP, STOP, HOW),
                         [ZERO, do(0, 1), ZERO, NOTHING, NOTHING, BACK])

    def test_back_by_a_step_given_up(self):
        self.assertEqual(ask(start(step(wait=5, tries=1)), NEXT, tick(5), STOP, HOW),
                         [ZERO, do(0, 1), BACK, NOTHING, BACK])

    def test_undone_by_a_stop(self):
        self.assertEqual(ask(start(step()), STOP, STOP, HOW), [ZERO, ZERO, NOTHING, UNDONE])

    def test_undone_by_an_answer(self):
        self.assertEqual(ask(start(step(tries=1)), NEXT, ill(0, 1), STOP, HOW),
                         [ZERO, do(0, 1), ONE, NOTHING, UNDONE])

    def test_done(self):
        self.assertEqual(ask(start(step()), NEXT, well(0, 1), STOP, HOW, NEXT),
                         [ZERO, do(0, 1), ONE, NOTHING, DONE, NOTHING])

    def test_named_ahead_of_the_point(self):
        done = [start(step(kind=POINT)), NEXT, well(0, 1)]
        self.assertEqual(behind(done, HOW, STOP, HOW), [DONE, NOTHING, DONE])
        undone = [start(step(tries=1, kind=POINT)), NEXT, ill(0, 1)]
        self.assertEqual(behind(undone, HOW, STOP, HOW), [UNDONE, NOTHING, UNDONE])
        back = [start(step(), step([0], tries=1, kind=POINT)), NEXT, well(0, 1), NEXT, ill(1, 1)]
        self.assertEqual(behind(back, HOW, STOP, HOW, NEXT), [BACK, NOTHING, BACK, undo(0, 1)])


class PointTest(unittest.TestCase):

    def test_the_point_not_told(self):
        self.assertEqual(behind(THREE, STOP, HOW), [ZERO, UNDONE])
        self.assertEqual(behind(THREE, NEXT, STOP, HOW, NEXT), [do(0, 1), ZERO, BACK, undo(0, 1)])

    def test_all_ahead_of_the_point_done(self):
        self.assertEqual(behind(THREE, NEXT, well(0, 1), STOP, HOW, NEXT, well(0, 1, 1), HOW),
                         [do(0, 1), ONE, ZERO, BACK, undo(0, 1), ONE, UNDONE])

    def test_the_point_told_and_not_answered(self):
        told = behind(THREE, NEXT, well(0, 1), NEXT, STOP, HOW, tick(5), STOP, HOW)
        self.assertEqual(told, [do(0, 1), ONE, do(1, 1), TOO_LATE, ON, ON, TOO_LATE, ON])

    def test_the_point_answered_ill(self):
        told = behind(THREE, NEXT, well(0, 1), NEXT, ill(1, 1), STOP, HOW, NEXT, STOP)
        self.assertEqual(told[3:], [ONE, TOO_LATE, ON, do(1, 2), TOO_LATE])

    def test_the_point_done(self):
        told = behind(THREE, NEXT, well(0, 1), NEXT, well(1, 1), STOP, NEXT, STOP, HOW, well(2, 1), STOP, HOW)
        self.assertEqual(told[3:], [ONE, TOO_LATE, do(2, 1), TOO_LATE, ON, ONE, NOTHING, DONE])

    def test_the_last_try_of_the_point_not_answered(self):
        told = behind(THREE, NEXT, well(0, 1), NEXT, tick(5), NEXT, tick(5), STOP, NEXT, STOP, HOW)
        self.assertEqual(told[4:], [do(1, 2), ON, TOO_LATE, do(1, 3), TOO_LATE, ON])

    def test_a_step_behind_the_point_is_not_the_point(self):
        self.assertEqual(ask(start(step(kind=POINT), step([0], kind=BEHIND)), STOP, HOW), [ZERO, ZERO, UNDONE])

    def test_without_a_point_it_is_never_too_late(self):
        told = ask(start(step(), step([0]), step([1])), NEXT, well(0, 1), NEXT, well(1, 1), NEXT, STOP, HOW)
        self.assertEqual(told[5:], [do(2, 1), ZERO, BACK])


class ChangesNothingTest(unittest.TestCase):

    def test_a_refusal_is_as_if_not_asked(self):
        calls = [NEXT, well(0, 1), NEXT, ill(1, 1), NEXT, tick(4), NEXT, tick(1), NEXT, well(1, 2), NEXT, tick(5),
                 NEXT, well(2, 1), HOW, look(0), look(1), look(2)]
        plain = behind(THREE, *calls)
        # From the point's first telling on, behind each call one that's refused.
        stopped = behind(THREE, *calls[:3], *[one for call in calls[3:] for one in (STOP, call)])
        self.assertEqual(stopped[3::2], [TOO_LATE] * 11 + [NOTHING] * 4)
        self.assertEqual(stopped[:3] + stopped[4::2], plain)

    def test_a_refusal_while_it_goes_back(self):
        calls = [NEXT, tick(5), NEXT, tick(5), NEXT, ill(0, 2, 1), NEXT, well(0, 3, 1), HOW, look(0)]
        first = [start(step(wait=5, tries=2)), NEXT, STOP]
        plain = behind(first, *calls)
        self.assertEqual(plain[-2:], [UNDONE, seen(1, 3, 2)])
        stopped = behind(first, *[one for call in calls for one in (STOP, call)])
        self.assertEqual(stopped[0::2], [NOTHING] * len(calls))
        self.assertEqual(stopped[1::2], plain)

    def test_a_refused_start_leaves_it_as_it_was(self):
        told = ask(start(step()), NEXT, STOP, start(), HOW, STOP)
        self.assertEqual(told, [ZERO, do(0, 1), ZERO, WRONG, BACK, NOTHING])


if __name__ == "__main__":
    unittest.main()
