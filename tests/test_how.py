"""Point 6: lb_how, and the turns that it tells of."""

import unittest

from helper import BACK, DONE, HOW, NEXT, NOTHING, NOT_TOLD, ON, ONE, STOP, TOO_LATE, UNDONE, WRONG, ZERO
from helper import ask, do, ill, look, start, step, tick, undo, well

POINT, BEHIND = 1, 2


class OnTest(unittest.TestCase):

    def test_at_first(self):
        self.assertEqual(ask(start(step()), HOW), [ZERO, ON])
        self.assertEqual(ask(start(*[step()] * 32), HOW), [ZERO, ON])

    def test_while_not_all_are_done(self):
        told = ask(start(step(), step()), NEXT, HOW, NEXT, HOW, well(1, 1), HOW)
        self.assertEqual(told[2::2], [ON, ON, ON])

    def test_while_a_step_may_be_told_again(self):
        told = ask(start(step(wait=5, tries=2)), NEXT, ill(0, 1), HOW, NEXT, tick(4), HOW)
        self.assertEqual(told, [ZERO, do(0, 1), ONE, ON, do(0, 2), ON, ON])

    def test_behind_a_stop_that_is_refused(self):
        self.assertEqual(ask(start(step(kind=POINT)), NEXT, STOP, HOW), [ZERO, do(0, 1), TOO_LATE, ON])

    def test_behind_a_start_that_comes_again(self):
        back = [start(step()), NEXT, STOP]
        done = [start(step()), NEXT, well(0, 1)]
        undone = [start(step()), STOP]
        for first, how in ((back, BACK), (done, DONE), (undone, UNDONE)):
            told = ask(*first, HOW, start(step(), step()), HOW, NEXT)
            self.assertEqual(told[len(first):], [how, ZERO, ON, do(0, 1)])

    def test_not_behind_a_start_that_is_refused(self):
        back = [start(step()), NEXT, STOP]
        done = [start(step()), NEXT, well(0, 1)]
        undone = [start(step()), STOP]
        for first, how in ((back, BACK), (done, DONE), (undone, UNDONE)):
            self.assertEqual(ask(*first, start(step(wait=0)), HOW)[len(first):], [WRONG, how])


class BackTest(unittest.TestCase):

    def test_by_a_tick(self):
        told = ask(start(step(wait=5, tries=1)), NEXT, tick(4), HOW, tick(1), HOW, tick(65535), HOW)
        self.assertEqual(told[3::2], [ON, BACK, BACK])

    def test_by_an_answer(self):
        told = ask(start(step(), step([0], tries=1)), NEXT, well(0, 1), NEXT, HOW, ill(1, 1), HOW)
        self.assertEqual(told[4:], [ON, ONE, BACK])

    def test_by_a_stop(self):
        self.assertEqual(ask(start(step()), NEXT, HOW, STOP, HOW), [ZERO, do(0, 1), ON, ZERO, BACK])

    def test_by_one_step_of_many(self):
        told = ask(start(step(), step(tries=1), step()), NEXT, NEXT, NEXT, well(2, 1), ill(1, 1), HOW)
        self.assertEqual(told[4:], [ONE, ONE, BACK])

    def test_by_the_point_whose_tellings_are_all_answered_ill(self):
        told = ask(start(step(), step([0], wait=5, tries=2, kind=POINT)), NEXT, well(0, 1), NEXT, tick(5), NEXT,
                   ill(1, 2), HOW, ill(1, 1), HOW, NEXT)
        self.assertEqual(told[6:], [ONE, ON, ONE, BACK, undo(0, 1)])

    def test_while_some_are_not_clean(self):
        told = ask(start(step(), step()), NEXT, NEXT, STOP, NEXT, well(1, 1, 1), HOW, NEXT, ill(0, 1, 1), HOW)
        self.assertEqual(told[4:], [undo(1, 1), ONE, BACK, undo(0, 1), ONE, BACK])

    def test_though_all_steps_were_done_in_the_end(self):
        told = ask(start(step(wait=5, tries=1)), NEXT, tick(5), well(0, 1), HOW)
        self.assertEqual(told, [ZERO, do(0, 1), BACK, ONE, BACK])


class DoneTest(unittest.TestCase):

    def test_by_an_answer(self):
        told = ask(start(step(), step()), NEXT, NEXT, well(1, 1), HOW, well(0, 1), HOW)
        self.assertEqual(told[3:], [ONE, ON, ONE, DONE])

    def test_by_a_late_answer(self):
        told = ask(start(step(wait=5, tries=2)), NEXT, tick(5), NEXT, ill(0, 2), HOW)
        self.assertEqual(told[4:], [ONE, BACK])
        told = ask(start(step(wait=5, tries=2)), NEXT, tick(5), NEXT, well(0, 1), HOW, ill(0, 2), HOW)
        self.assertEqual(told[4:], [ONE, DONE, ONE, DONE])

    def test_behind_the_point(self):
        told = ask(start(step(kind=POINT), step([0], kind=BEHIND)), NEXT, well(0, 1), HOW, NEXT, well(1, 1), HOW)
        self.assertEqual(told[2:], [ONE, ON, do(1, 1), ONE, DONE])

    def test_it_stays_done(self):
        told = ask(start(step(wait=5, tries=2)), NEXT, tick(5), NEXT, well(0, 1), ill(0, 2), tick(65535), STOP, NEXT,
                   HOW)
        self.assertEqual(told[4:], [ONE, ONE, DONE, NOTHING, NOTHING, DONE])


class UndoneTest(unittest.TestCase):

    def test_by_an_answer_that_it_was_undone(self):
        told = ask(start(step()), NEXT, STOP, NEXT, HOW, well(0, 1, 1), HOW)
        self.assertEqual(told[3:], [undo(0, 1), BACK, ONE, UNDONE])

    def test_by_an_answer_ill_of_the_last_that_might_have_been_done(self):
        told = ask(start(step(), step()), NEXT, NEXT, STOP, ill(1, 1), HOW, ill(0, 1), HOW)
        self.assertEqual(told[3:], [ZERO, ONE, BACK, ONE, UNDONE])

    def test_at_once_by_an_answer_that_gives_a_step_up(self):
        self.assertEqual(ask(start(step(tries=1), step([0])), NEXT, ill(0, 1), HOW), [ZERO, do(0, 1), ONE, UNDONE])

    def test_at_once_by_a_stop(self):
        self.assertEqual(ask(start(step()), STOP, HOW), [ZERO, ZERO, UNDONE])
        self.assertEqual(ask(start(step()), NEXT, ill(0, 1), STOP, HOW), [ZERO, do(0, 1), ONE, ZERO, UNDONE])

    def test_a_tick_alone_leaves_what_is_not_answered(self):
        # What a tick gives up is a telling that wasn't answered: it may have been done, so it's never clean.
        told = ask(start(step(wait=1, tries=1)), NEXT, tick(1), HOW, tick(65535), HOW)
        self.assertEqual(told[2:], [BACK, BACK, BACK, BACK])

    def test_it_stays_undone(self):
        told = ask(start(step(wait=5, tries=1)), NEXT, tick(5), NEXT, well(0, 1, 1), well(0, 1), tick(65535), STOP,
                   NEXT, HOW)
        self.assertEqual(told[4:], [ONE, ZERO, UNDONE, NOTHING, NOTHING, UNDONE])


class AskingTest(unittest.TestCase):

    def test_a_tick_answers_the_same(self):
        on = [start(step())]
        back = [start(step()), NEXT, STOP]
        done = [start(step()), NEXT, well(0, 1)]
        undone = [start(step()), STOP]
        for first, how in ((on, ON), (back, BACK), (done, DONE), (undone, UNDONE)):
            self.assertEqual(ask(*first, HOW, tick(0), HOW)[len(first):], [how] * 3)

    def test_asking_changes_nothing(self):
        on_and_done = [NEXT, tick(5), NEXT, ill(0, 2), well(0, 1), NEXT, well(1, 1), look(0), look(1)]
        back = [NEXT, ill(0, 1), NEXT, tick(4), NEXT, tick(1), STOP, NEXT, tick(5), NEXT, ill(0, 2, 1), NEXT,
                well(0, 9), well(0, 1, 1), look(0), look(1)]
        first = start(step(wait=5, tries=3), step([0], wait=5, tries=1))
        for calls, ways in ((on_and_done, {ON, DONE}), (back, {ON, BACK, UNDONE})):
            plain = ask(first, *calls)
            asked = ask(first, *[one for call in calls for one in (HOW, call, HOW)])
            self.assertEqual(asked[:1] + asked[2::3], plain)
            self.assertEqual(set(asked[1::3] + asked[3::3]), ways)
            # What is so ahead of a call was so behind the one before it.
            self.assertEqual(asked[4::3], asked[3:-1:3])
        self.assertIn(NOT_TOLD, plain)


if __name__ == "__main__":
    unittest.main()
