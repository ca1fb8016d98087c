"""Point 1: lb_start."""

import unittest

from helper import HOW, NEXT, NOTHING, NOT_TOLD, ON, ONE, UNDONE, WRONG, ZERO
from helper import ask, do, ill, start, step, tick, well

AHEAD, POINT, BEHIND = 0, 1, 2
GREATEST = 2 ** 63 - 1


class StartTest(unittest.TestCase):

    def kept(self, *steps):
        self.assertEqual(ask(start(*steps)), [ZERO])

    def broken(self, *steps):
        self.assertEqual(ask(start(*steps)), [WRONG])

    def test_how_many_steps(self):
        self.broken()
        self.kept(step())
        self.kept(*[step()] * 2)
        self.kept(*[step()] * 31)
        self.kept(*[step()] * 32)
        self.broken(*[step()] * 33)
        self.broken(*[step()] * 40)

    def test_needs_are_of_lesser_numbers(self):
        self.kept(step(), step([0]), step([0, 1]))
        self.kept(step(), step(), step([0]), step([1]))
        self.broken(step([0]))
        self.broken(step([1]), step())
        self.broken(step(), step([1]))
        self.broken(step(), step([0, 1]))
        self.broken(step(), step([0, 2]), step())
        self.broken(step(), step([31]))

    def test_needs_of_the_last_of_32(self):
        first = [step()] * 31
        self.kept(*first, step(range(31)))
        self.kept(*first, step([30]))
        self.broken(*first, step([31]))
        self.broken(*first, step(range(32)))

    def test_wait(self):
        self.kept(step(wait=1))
        self.kept(step(wait=65535))
        self.broken(step(wait=0))
        self.broken(step(wait=65536))
        self.broken(step(wait=GREATEST))
        self.broken(step(), step(wait=0), step())

    def test_tries(self):
        for tries in range(1, 9):
            self.kept(step(tries=tries))
        self.broken(step(tries=0))
        self.broken(step(tries=9))
        self.broken(step(tries=GREATEST))
        self.broken(step(), step(), step(tries=9))

    def test_kind(self):
        self.kept(step(kind=AHEAD))
        self.kept(step(kind=POINT))
        self.broken(step(kind=3))
        self.broken(step(kind=GREATEST))
        self.broken(step(kind=POINT), step([0], kind=3))

    def test_one_point_at_most(self):
        self.kept(step(), step([0], kind=POINT), step([1], kind=BEHIND))
        self.broken(step(kind=POINT), step(kind=POINT))
        self.broken(step(kind=POINT), step([0], kind=POINT))
        self.broken(step(), step([0], kind=POINT), step([0, 1], kind=POINT))

    def test_without_a_point_all_are_of_kind_0(self):
        self.kept(step(), step([0]), step())
        self.broken(step(kind=BEHIND))
        self.broken(step(), step([0], kind=BEHIND))
        self.broken(step(kind=BEHIND), step([0]))

    def test_the_point_needs_each_of_kind_0(self):
        self.kept(step(), step(), step([0, 1], kind=POINT))
        self.broken(step(), step(kind=POINT))
        self.broken(step(), step(), step([0], kind=POINT))
        self.broken(step(), step(), step([1], kind=POINT))
        self.broken(step(kind=POINT), step())
        self.broken(step(kind=POINT), step([0]))

    def test_the_point_needs_them_by_way_of_others(self):
        self.kept(step(), step([0]), step([1], kind=POINT))
        self.kept(step(), step([0]), step([1]), step([2]), step([3], kind=POINT))
        self.kept(step(), step(), step([0]), step([1]), step([2, 3], kind=POINT))
        self.broken(step(), step([0]), step([0]), step([1], kind=POINT))
        self.broken(step(), step(), step([1]), step([2], kind=POINT))

    def test_each_of_kind_2_needs_the_point(self):
        self.kept(step(kind=POINT), step([0], kind=BEHIND), step([0], kind=BEHIND))
        self.broken(step(kind=POINT), step(kind=BEHIND))
        self.broken(step(), step([0], kind=POINT), step([0], kind=BEHIND))
        self.broken(step(kind=BEHIND), step(kind=POINT))
        self.broken(step(kind=BEHIND), step([0], kind=POINT))

    def test_they_need_it_by_way_of_others(self):
        self.kept(step(kind=POINT), step([0], kind=BEHIND), step([1], kind=BEHIND), step([2], kind=BEHIND))
        self.kept(step(), step([0], kind=POINT), step([1], kind=BEHIND), step([0, 2], kind=BEHIND))
        self.broken(step(), step([0], kind=POINT), step([1], kind=BEHIND), step([0], kind=BEHIND))

    def test_by_way_of_31_others(self):
        chain = [step()] + [step([place]) for place in range(31)]
        pointed = chain[:31] + [step([30], kind=POINT)]
        behind = [step(kind=POINT)] + [step([place], kind=BEHIND) for place in range(31)]
        self.kept(*chain)
        self.kept(*pointed)
        self.kept(*behind)
        pointed[15] = step()
        self.broken(*pointed)
        behind[15] = step(kind=BEHIND)
        self.broken(*behind)

    def test_at_first_it_goes_on_and_nothing_was_told(self):
        self.assertEqual(ask(start(step()), HOW, well(0, 1), ill(0, 1), well(0, 1, 1), NEXT),
                         [ZERO, ON, NOT_TOLD, NOT_TOLD, NOT_TOLD, do(0, 1)])

    def test_a_start_that_comes_again_begins_anew(self):
        told = ask(start(step(wait=5), step()), NEXT, well(0, 1), tick(3), start(step(wait=5)),
                   HOW, well(0, 1), well(1, 1), NEXT, NEXT, tick(4), NEXT, tick(1), NEXT)
        self.assertEqual(told, [ZERO, do(0, 1), ONE, ON, ZERO,
                                ON, NOT_TOLD, WRONG, do(0, 1), NOTHING, ON, NOTHING, ON, do(0, 2)])

    def test_a_start_behind_one_that_is_undone(self):
        one = step(tries=1)
        self.assertEqual(ask(start(one), NEXT, ill(0, 1), HOW, start(one), HOW, NEXT),
                         [ZERO, do(0, 1), ONE, UNDONE, ZERO, ON, do(0, 1)])

    def test_a_start_that_is_refused_changes_nothing(self):
        refused = (start(), start(step(wait=0)), start(step(kind=BEHIND)), start(*[step()] * 33))
        for again in refused:
            told = ask(start(step(wait=5), step([0])), NEXT, tick(3), again, NEXT, tick(2), NEXT,
                       again, well(0, 1), NEXT)
            self.assertEqual(told, [ZERO, do(0, 1), ON, WRONG, NOTHING, ON, do(0, 2),
                                    WRONG, ONE, do(1, 1)])

    def test_a_start_behind_one_that_was_refused_first(self):
        self.assertEqual(ask(start(), start(step(kind=3)), start(step()), NEXT),
                         [WRONG, WRONG, ZERO, do(0, 1)])


if __name__ == "__main__":
    unittest.main()
