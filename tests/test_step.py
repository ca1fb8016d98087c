"""Point 7: lb_step_."""

import unittest

from helper import BACK, DONE, HOW, NEXT, NOTHING, ON, ONE, STOP, UNDONE, WRONG, ZERO
from helper import ask, do, ill, look, seen, start, step, tick, undo, well

POINT, BEHIND = 1, 2
GREATEST = 2 ** 63 - 1


class WhichStepTest(unittest.TestCase):

    def test_the_first_the_last_and_none(self):
        told = ask(start(step(), step(), step()), NEXT, NEXT, well(1, 1), look(0), look(1), look(2), look(3))
        self.assertEqual(told[4:], [seen(1, 0, 0), seen(1, 0, 1), seen(0, 0, 0), WRONG])

    def test_of_one_step(self):
        self.assertEqual(ask(start(step()), look(0), look(1), look(2), look(GREATEST)),
                         [ZERO, seen(0, 0, 0), WRONG, WRONG, WRONG])

    def test_of_32_steps(self):
        told = ask(start(*[step()] * 32), *[NEXT] * 32, well(31, 1), look(31), look(30), look(32), look(GREATEST))
        self.assertEqual(told[34:], [seen(1, 0, 1), seen(1, 0, 0), WRONG, WRONG])

    def test_of_another_start(self):
        told = ask(start(step(), step()), NEXT, look(0), look(1), start(step()), look(0), look(1))
        self.assertEqual(told, [ZERO, do(0, 1), seen(1, 0, 0), seen(0, 0, 0), ZERO, seen(0, 0, 0), WRONG])

    def test_of_a_refused_start(self):
        told = ask(start(step()), NEXT, start(step(), step([1])), look(0), look(1))
        self.assertEqual(told, [ZERO, do(0, 1), WRONG, seen(1, 0, 0), WRONG])


class StandingTest(unittest.TestCase):

    def test_not_told(self):
        self.assertEqual(ask(start(step()), NEXT, start(step()), tick(65535), look(0)),
                         [ZERO, do(0, 1), ZERO, ON, seen(0, 0, 0)])

    def test_told(self):
        told = ask(start(step(wait=5, tries=3)), NEXT, look(0), tick(5), look(0), NEXT, look(0))
        self.assertEqual(told, [ZERO, do(0, 1), seen(1, 0, 0), ON, seen(1, 0, 0), do(0, 2), seen(2, 0, 0)])

    def test_answered_ill(self):
        told = ask(start(step(tries=2)), NEXT, ill(0, 1), look(0), NEXT, ill(0, 2), look(0), HOW)
        self.assertEqual(told[2:], [ONE, seen(1, 0, 0), do(0, 2), ONE, seen(2, 0, 0), UNDONE])

    def test_done(self):
        self.assertEqual(ask(start(step()), NEXT, well(0, 1), look(0), HOW), [ZERO, do(0, 1), ONE, seen(1, 0, 1), DONE])

    def test_done_by_the_first_of_two_tellings(self):
        told = ask(start(step(wait=5, tries=2)), NEXT, tick(5), NEXT, well(0, 1), look(0), ill(0, 2), look(0))
        self.assertEqual(told[4:], [ONE, seen(2, 0, 1), ONE, seen(2, 0, 1)])

    def test_done_and_told_to_be_undone(self):
        told = ask(start(step(wait=5), step()), NEXT, well(0, 1), STOP, look(0), NEXT, look(0), tick(5), NEXT, look(0))
        self.assertEqual(told[3:], [ZERO, seen(1, 0, 1), undo(0, 1), seen(1, 1, 1), BACK, undo(0, 2), seen(1, 2, 1)])

    def test_done_and_undone(self):
        told = ask(start(step(), step()), NEXT, well(0, 1), STOP, NEXT, well(0, 1, 1), look(0), look(1), HOW)
        self.assertEqual(told[4:], [undo(0, 1), ONE, seen(1, 1, 2), seen(0, 0, 0), UNDONE])

    def test_undone_without_having_been_answered_done(self):
        told = ask(start(step()), NEXT, STOP, NEXT, look(0), well(0, 1, 1), look(0))
        self.assertEqual(told[3:], [undo(0, 1), seen(1, 1, 0), ONE, seen(1, 1, 2)])

    def test_undone_and_answered_done_late(self):
        told = ask(start(step()), NEXT, STOP, NEXT, well(0, 1, 1), well(0, 1), look(0))
        self.assertEqual(told[4:], [ONE, ZERO, seen(1, 1, 2)])

    def test_done_late_while_it_goes_back(self):
        told = ask(start(step()), NEXT, STOP, NEXT, well(0, 1), look(0), well(0, 1, 1), look(0))
        self.assertEqual(told[4:], [ONE, seen(1, 1, 1), ONE, seen(1, 1, 2)])

    def test_told_to_be_undone_and_answered_ill(self):
        told = ask(start(step()), NEXT, STOP, NEXT, ill(0, 1, 1), look(0), NEXT, look(0))
        self.assertEqual(told[4:], [ONE, seen(1, 1, 0), undo(0, 2), seen(1, 2, 0)])
        told = ask(start(step(), step()), NEXT, well(0, 1), STOP, NEXT, ill(0, 1, 1), look(0))
        self.assertEqual(told[5:], [ONE, seen(1, 1, 1)])

    def test_undone_by_the_first_of_two_tellings(self):
        told = ask(start(step(wait=5)), NEXT, STOP, NEXT, tick(5), NEXT, well(0, 1, 1), look(0), HOW)
        self.assertEqual(told[6:], [ONE, seen(1, 2, 2), UNDONE])

    def test_clean_but_not_undone(self):
        # Answered ill, it's clean; but no telling to undo it was answered well.
        told = ask(start(step()), NEXT, STOP, NEXT, ill(0, 1), HOW, look(0), well(0, 1, 1), look(0))
        self.assertEqual(told[4:], [ONE, UNDONE, seen(1, 1, 0), ONE, seen(1, 1, 2)])

    def test_more_tellings_to_be_done_than_to_be_undone_and_the_other_way(self):
        told = ask(start(step(wait=1, tries=3)), *[NEXT, tick(1)] * 3, *[NEXT, tick(1)] * 2, look(0),
                   *[NEXT, tick(1)] * 5, look(0))
        self.assertEqual([told[11], told[22]], [seen(3, 2, 0), seen(3, 7, 0)])

    def test_behind_the_point_told_a_hundred_times(self):
        first = [start(step(kind=POINT), step([0], wait=5, tries=1, kind=BEHIND)), NEXT, well(0, 1)]
        calls = first + [NEXT, tick(5)] * 99 + [NEXT]
        told = ask(*calls, look(1), HOW, well(1, 50), look(1), look(0), HOW)
        self.assertEqual(told[len(calls) - 1:],
                         [do(1, 100), seen(100, 0, 0), ON, ONE, seen(100, 0, 1), seen(1, 0, 1), DONE])

    def test_the_point_told_oftener_than_its_tries(self):
        calls = [start(step(wait=1, tries=1, kind=POINT))] + [NEXT, tick(1)] * 9
        self.assertEqual(ask(*calls, look(0), well(0, 9), look(0))[len(calls):],
                         [seen(9, 0, 0), ONE, seen(9, 0, 1)])


class AskingTest(unittest.TestCase):

    def test_asking_changes_nothing(self):
        first = start(step(wait=5, tries=2), step([0], wait=5, tries=1))
        calls = [NEXT, tick(5), NEXT, well(0, 1), NEXT, tick(4), NEXT, tick(1), NEXT, ill(1, 1, 1), NEXT, well(1, 2, 1),
                 NEXT, ill(0, 2), HOW, well(0, 1, 1), HOW]
        plain = ask(first, *calls)
        self.assertEqual(plain[-3:], [BACK, ONE, UNDONE])
        asked = ask(first, *[one for call in calls for one in (look(0), look(1), look(2), call)])
        self.assertEqual(asked[:1] + asked[4::4], plain)
        self.assertEqual(set(asked[3::4]), {WRONG})
        self.assertIn(NOTHING, plain)


if __name__ == "__main__":
    unittest.main()
