"""Point 4: lb_tick."""

import unittest

from helper import BACK, DONE, NEXT, NOTHING, ON, ONE, UNDONE, WRONG, ZERO
from helper import ask, do, ill, start, step, tick, undo, well


class TickTest(unittest.TestCase):

    def test_the_most_ticks(self):
        self.assertEqual(ask(start(step()), tick(65535), tick(65536), tick(2 ** 63 - 1)),
                         [ZERO, ON, WRONG, WRONG])

    def test_too_many_ticks_do_not_go(self):
        told = ask(start(step(wait=5)), NEXT, tick(65536), NEXT, tick(2 ** 63 - 1), NEXT, tick(5), NEXT)
        self.assertEqual(told, [ZERO, do(0, 1), WRONG, NOTHING, WRONG, NOTHING, ON, do(0, 2)])

    def test_too_many_ticks_give_nothing_up(self):
        told = ask(start(step(wait=5, tries=1)), NEXT, tick(65536), tick(4), tick(65536), tick(1), tick(65536))
        self.assertEqual(told, [ZERO, do(0, 1), WRONG, ON, WRONG, BACK, WRONG])

    def test_no_ticks(self):
        told = ask(start(step(wait=1)), tick(0), NEXT, tick(0), NEXT, tick(1), tick(0), NEXT)
        self.assertEqual(told, [ZERO, ON, do(0, 1), ON, NOTHING, ON, ON, do(0, 2)])

    def test_ticks_add_up(self):
        told = ask(start(step(wait=6)), NEXT, tick(1), tick(2), tick(2), NEXT, tick(0), tick(1), NEXT)
        self.assertEqual(told, [ZERO, do(0, 1), ON, ON, ON, NOTHING, ON, ON, do(0, 2)])

    def test_ticks_add_up_beyond_the_most_at_once(self):
        told = ask(start(step(wait=65535)), tick(65535), tick(65535), NEXT, tick(65534), NEXT, tick(1), NEXT)
        self.assertEqual(told, [ZERO, ON, ON, do(0, 1), ON, NOTHING, ON, do(0, 2)])

    def test_it_goes_on(self):
        self.assertEqual(ask(start(step(), step()), tick(3), NEXT, tick(3), well(0, 1), tick(3)),
                         [ZERO, ON, do(0, 1), ON, ONE, ON])

    def test_it_goes_back_by_this_very_tick(self):
        told = ask(start(step(wait=5, tries=1)), NEXT, tick(4), tick(1), tick(0), tick(65535), NEXT)
        self.assertEqual(told, [ZERO, do(0, 1), ON, BACK, BACK, BACK, undo(0, 1)])

    def test_it_is_done(self):
        self.assertEqual(ask(start(step(tries=1)), NEXT, well(0, 1), tick(0), tick(65535)),
                         [ZERO, do(0, 1), ONE, DONE, DONE])

    def test_it_is_undone(self):
        told = ask(start(step(wait=5, tries=1)), NEXT, tick(5), NEXT, well(0, 1, 1), tick(0), tick(65535))
        self.assertEqual(told, [ZERO, do(0, 1), BACK, undo(0, 1), ONE, UNDONE, UNDONE])

    def test_undone_at_once_where_nothing_was_done(self):
        self.assertEqual(ask(start(step(tries=1), step([0])), NEXT, ill(0, 1), tick(0)),
                         [ZERO, do(0, 1), ONE, UNDONE])

    def test_steps_given_up_by_one_tick(self):
        told = ask(start(step(wait=5, tries=1), step(wait=5, tries=1)), NEXT, NEXT, tick(5), well(0, 1), well(1, 1),
                   tick(0), NEXT, NEXT)
        self.assertEqual(told, [ZERO, do(0, 1), do(1, 1), BACK, ONE, ONE, BACK, undo(1, 1), undo(0, 1)])


if __name__ == "__main__":
    unittest.main()
