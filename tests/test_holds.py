"""What holds of every run, whatever comes: random runs, drawn anew alike each time."""

import random
import unittest

from longdeed.desk import answers
from helper import NOTHING, Model, fit, split

RUNS = 1500


def draw_steps(draw):
    """Steps that are as told: with a point in most runs, few tries and short waits."""
    ahead = draw.randint(0, 4)
    pointed = draw.random() < 0.6
    behind = draw.randint(0, 3) if pointed else 0
    steps = []
    for place in range(ahead if pointed else ahead + 1):
        steps.append([draw.getrandbits(place) if place else 0, draw.randint(1, 4), draw.randint(1, 3), 0])
    if pointed:
        point = len(steps)
        steps.append([2 ** point - 1, draw.randint(1, 4), draw.randint(1, 3), 1])
        for place in range(point + 1, point + 1 + behind):
            steps.append([draw.getrandbits(place) | 1 << point, draw.randint(1, 4), draw.randint(1, 3), 2])
    return steps


def draw_any_steps(draw):
    """Steps that are near what was told, and often break it."""
    n = draw.randint(1, 5)
    return [[draw.getrandbits(place + 1) if draw.random() < 0.1 else draw.getrandbits(place) if place else 0,
             draw.choice([0, 1, 2, 65535, 65536] + [3] * 15), draw.choice([0, 1, 8, 9] + [2] * 15),
             draw.choice([0, 0, 0, 0, 1, 2, 2, 3])] for place in range(n)]


def draw_answer(draw, model):
    """An answer: mostly of something told, now and then of something else."""
    if model.log and draw.random() < 0.9:
        entry = draw.choice(model.log[-6:] if draw.random() < 0.7 else model.log)
        return [entry["i"], entry["what"], entry["k"], draw.choice(draw.lucky)]
    return [draw.randint(0, len(model.steps)), draw.randint(0, 2), draw.randint(0, 12), draw.randint(0, 2)]


def run_of(seed):
    """A random run: its numbers, what the model answers, and the model behind it."""
    draw = random.Random(seed)
    draw.lucky = draw.choice([[0, 1], [0, 0, 0, 1], [0, 1, 1, 1], [0]])
    model = Model()
    steps = draw_steps(draw)
    calls = [0, 4 * len(steps)] + [number for one in steps for number in one]
    told = [model.start(steps)]
    for turn in range(draw.randint(20, 120)):
        chance = draw.random()
        if chance < 0.45:
            calls.append(1)
            told.append(model.next())
        elif chance < 0.7:
            numbers = draw_answer(draw, model)
            calls += [2] + numbers
            told.append(model.answer(*numbers))
        elif chance < 0.99:
            ticks = draw.choice([0, 1, 1, 1, 2, 3, 5, 65536])
            calls += [3, ticks]
            told.append(model.tick(ticks))
        else:
            again = draw_any_steps(draw)
            calls += [0, 4 * len(again)] + [number for one in again for number in one]
            told.append(model.start(again))
    return calls, told, model


class HoldsTest(unittest.TestCase):

    @classmethod
    def setUpClass(cls):
        cls.runs = [run_of(seed) for seed in range(RUNS)]

    def test_answers_are_as_the_document_words_them(self):
        for calls, told, model in self.runs:
            self.assertEqual(split(answers(calls)), told, calls)

    def test_the_runs_come_to_every_end(self):
        self.assertEqual({model.way for calls, told, model in self.runs}, {0, 1, 2, 3})
        tellings = [entry for calls, told, model in self.runs for entry in model.log]
        self.assertTrue(any(entry["k"] > 8 and entry["what"] == 0 for entry in tellings))
        self.assertTrue(any(entry["k"] > 3 and entry["what"] == 1 for entry in tellings))

    def test_starts_are_as_the_document_words_them(self):
        draw = random.Random(7)
        seen = set()
        for turn in range(4000):
            steps = draw_any_steps(draw)
            expected = 0 if fit(steps) else -22
            seen.add(expected)
            numbers = [number for one in steps for number in one]
            self.assertEqual(answers([0, len(numbers)] + numbers), [2, 0, expected], steps)
        self.assertEqual(seen, {0, -22})

    def test_all_or_nothing_in_order_and_no_way_back(self):
        for calls, told, model in self.runs:
            watch = Watch(self)
            for call, told_of_it in zip(calls_of(calls), split(answers(calls))):
                watch.see(call, told_of_it)

    def test_it_comes_to_an_end(self):
        for calls, told, model in self.runs:
            more = list(calls)
            tellings = 0
            while tellings <= len(model.steps) + 1:
                more += [3, 65535, 1]
                told = split(answers(more))
                if told[-2] in ((0, 2), (0, 3)):
                    break
                self.assertNotEqual(told[-1], NOTHING, more)
                what, i, k = told[-1][1:]
                more += [2, i, what, k, 1]
                tellings += 1
            self.assertLessEqual(tellings, len(model.steps) + 1, more)

    def test_the_same_answer_once_more_changes_nothing(self):
        for calls, told, model in self.runs[:400]:
            doubled, places = double_answers(calls)
            again = split(answers(doubled))
            self.assertEqual([one for place, one in enumerate(again) if place not in places], told, doubled)
            for place in places:
                self.assertIn(again[place], ((0, 0), (0, -2), (0, -22)), doubled)


class Watch:
    """Follows a run by what the program answers alone, and asks at each call what must hold."""

    def __init__(self, test):
        self.test = test

    def see(self, call, told):
        if call[0] == 0 and told == (0, 0):
            self.steps = [call[at:at + 4] for at in range(2, len(call), 4)]
            self.tellings = {}
        elif call[0] == 1 and told != NOTHING:
            self.see_telling(told[1], told[2])
            self.tellings[told[1:]] = None
        elif call[0] == 2 and told == (0, 1):
            i, what, k, ok = call[1:]
            self.tellings[what, i, k] = ok
        elif call[0] == 3:
            self.see_way(told[1])

    def replies(self, what, i):
        return [ok for key, ok in self.tellings.items() if key[:2] == (what, i)]

    def clean(self, i):
        return 1 in self.replies(1, i) or set(self.replies(0, i)) <= {0}

    def see_telling(self, what, i):
        if what == 0:
            self.test.assertFalse(any(key[0] == 1 for key in self.tellings))
            for j in range(len(self.steps)):
                self.test.assertTrue(self.steps[i][0] >> j & 1 == 0 or 1 in self.replies(0, j))
        else:
            for j in range(len(self.steps)):
                self.test.assertTrue(self.steps[j][0] >> i & 1 == 0 or self.clean(j))
                self.test.assertFalse(self.steps[j][3] == 1 and 1 in self.replies(0, j))

    def see_way(self, way):
        for i in range(len(self.steps)):
            if way == 2:
                self.test.assertIn(1, self.replies(0, i))
                self.test.assertEqual(self.replies(1, i), [])
            if way == 3:
                self.test.assertTrue(self.clean(i))
            if way in (1, 3):
                self.test.assertFalse(self.steps[i][3] == 1 and 1 in self.replies(0, i))


def calls_of(numbers):
    """The calls that stand in a list of numbers, one list for each."""
    calls = []
    at = 0
    while at < len(numbers):
        size = 2 + numbers[at + 1] if numbers[at] == 0 else (0, 1, 5, 2)[numbers[at]]
        calls.append(numbers[at:at + size])
        at += size
    return calls


def double_answers(numbers):
    """The same calls with each lb_answer made twice, and the places of the second ones."""
    doubled = []
    places = set()
    for call in calls_of(numbers):
        doubled.append(call)
        if call[0] == 2:
            places.add(len(doubled))
            doubled.append(call)
    return [number for call in doubled for number in call], places


if __name__ == "__main__":
    unittest.main()
