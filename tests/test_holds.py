"""What holds of every run, whatever comes: random runs, drawn anew alike each time."""

import random
import unittest

from longdeed.desk import answers
from helper import NOTHING, TOO_LATE, WRONG, ZERO, Model, fit, seen, split

RUNS = 1500


def draw_steps(draw):
    """Steps that are as told: with a point in most runs, few tries and short waits."""
    ahead = draw.randint(0, 4)
    pointed = draw.random() < 0.6
    behind = draw.randint(0, 3) if pointed else 0
    steps = []
    for place in range(ahead if pointed else ahead + 1):
        steps.append([draw.getrandbits(place) if place else 0, draw.randint(1, 4), draw.randint(1, 3), 0])
    if pointed:
        point = len(steps)
        steps.append([2 ** point - 1, draw.randint(1, 4), draw.randint(1, 3), 1])
        for place in range(point + 1, point + 1 + behind):
            steps.append([draw.getrandbits(place) | 1 << point, draw.randint(1, 4), draw.randint(1, 3), 2])
    return steps


def draw_any_steps(draw):
    """Steps that are near what was told, and often break it."""
    n = draw.randint(1, 5)
    return [[draw.getrandbits(place + 1) if draw.random() < 0.1 else draw.getrandbits(place) if place else 0,
             draw.choice([0, 1, 2, 65535, 65536] + [3] * 15), draw.choice([0, 1, 8, 9] + [2] * 15),
             draw.choice([0, 0, 0, 0, 1, 2, 2, 3])] for place in range(n)]


def draw_answer(draw, model):
    """An answer: mostly of something told, now and then of something else."""
    if model.log and draw.random() < 0.9:
        entry = draw.choice(model.log[-6:] if draw.random() < 0.7 else model.log)
        return [entry["i"], entry["what"], entry["k"], draw.choice(draw.lucky)]
    return [draw.randint(0, len(model.steps)), draw.randint(0, 2), draw.randint(0, 12), draw.randint(0, 2)]


def draw_call(draw, model):
    """A call, in numbers, and what the model answers."""
    chance = draw.random()
    if chance < 0.42:
        return [1], model.next()
    if chance < 0.42 + draw.talk:
        numbers = draw_answer(draw, model)
        return [2] + numbers, model.answer(*numbers)
    if chance < 0.86:
        ticks = draw.choice([0, 1, 1, 1, 2, 3, 5, 65536])
        return [3, ticks], model.tick(ticks)
    if chance < 0.86 + draw.stops:
        return [4], model.stop()
    if chance < 0.92:
        return [5], model.how()
    if chance < 0.99:
        i = draw.randint(0, len(model.steps))
        return [6, i], model.look(i)
    again = draw_any_steps(draw)
    return [0, 4 * len(again)] + [number for one in again for number in one], model.start(again)


def run_of(seed):
    """A random run: its numbers, what the model answers, and the model behind it."""
    draw = random.Random(seed)
    draw.lucky = draw.choice([[0, 1], [0, 0, 0, 1], [0, 1, 1, 1], [0]])
    # How often there is an answer at all, and how often an lb_stop.
    draw.talk = draw.choice([0, 0.1, 0.25, 0.25, 0.35])
    draw.stops = draw.choice([0, 0.01, 0.03])
    model = Model()
    steps = draw_steps(draw)
    calls = [0, 4 * len(steps)] + [number for one in steps for number in one]
    told = [model.start(steps)]
    for turn in range(draw.randint(20, 120)):
        call, told_of_it = draw_call(draw, model)
        calls += call
        told.append(told_of_it)
    return calls, told, model


class ModelTest(unittest.TestCase):

    @classmethod
    def setUpClass(cls):
        cls.runs = [run_of(seed) for seed in range(RUNS)]

    def test_answers_are_as_the_document_words_them(self):
        for calls, told, model in self.runs:
            self.assertEqual(split(answers(calls)), told, calls)

    def test_the_runs_come_to_every_end(self):
        self.assertEqual({model.way for calls, told, model in self.runs}, {0, 1, 2, 3})
        tellings = [entry for calls, told, model in self.runs for entry in model.log]
        self.assertTrue(any(entry["k"] > 8 and entry["what"] == 0 for entry in tellings))
        self.assertTrue(any(entry["k"] > 3 and entry["what"] == 1 for entry in tellings))

    def test_the_runs_are_stopped_in_every_way(self):
        stops = {one for calls, told, model in self.runs for call, one in zip(calls_of(calls), told) if call == [4]}
        self.assertEqual(stops, {ZERO, NOTHING, TOO_LATE})

    def test_starts_are_as_the_document_words_them(self):
        draw = random.Random(7)
        found = set()
        for turn in range(4000):
            steps = draw_any_steps(draw)
            expected = 0 if fit(steps) else -22
            found.add(expected)
            numbers = [number for one in steps for number in one]
            self.assertEqual(answers([0, len(numbers)] + numbers), [2, 0, expected], steps)
        self.assertEqual(found, {0, -22})


class HoldsTest(unittest.TestCase):

    @classmethod
    def setUpClass(cls):
        cls.runs = [run_of(seed) for seed in range(RUNS)]
        cls.watches = [watch_of(calls) for calls, told, model in cls.runs]

    def of_all(self, letter):
        """How often this was looked at over all runs, none of which may have broken it."""
        for watch, (calls, told, model) in zip(self.watches, self.runs):
            self.assertNotIn(letter, watch.broken, calls)
        return sum(watch.looked[letter] for watch in self.watches)

    def test_a_all_or_nothing(self):
        self.assertGreater(self.of_all("a done"), 100)
        self.assertGreater(self.of_all("a undone"), 100)

    def test_b_in_order(self):
        self.assertGreater(self.of_all("b to be done"), 1000)
        self.assertGreater(self.of_all("b to be undone"), 1000)

    def test_c_no_way_back_behind_the_point(self):
        self.assertGreater(self.of_all("c"), 100)

    def test_what_is_told_of_a_step_is_what_came_of_it(self):
        self.assertGreater(self.of_all("7"), 1000)

    def test_d_it_comes_to_an_end(self):
        for calls, told, model in self.runs:
            self.assertLessEqual(tellings_to_the_end(calls), len(model.steps) + 1, calls)

    def test_d_with_one_more_than_there_are_steps(self):
        # The first step's only telling is never answered; the second is told before that one is given up.
        self.assertEqual(tellings_to_the_end([0, 8, 0, 5, 1, 0, 0, 5, 1, 0, 1]), 3)

    def test_d_behind_a_stop(self):
        # Three steps in a row: stopped with nothing told, the first told, the first done, the second told.
        begun = [0, 12, 0, 5, 1, 0, 1, 5, 1, 0, 2, 5, 1, 0]
        for more, tellings in (([], 0), ([1], 1), ([1, 2, 0, 0, 1, 1], 1), ([1, 2, 0, 0, 1, 1, 1], 2)):
            self.assertEqual(tellings_to_the_end(begun + more + [4]), tellings)

    def test_d_though_what_was_told_before_is_answered_too(self):
        for calls, told, model in self.runs:
            late = [number for entry in model.log if entry["answer"] is None
                    for number in (2, entry["i"], entry["what"], entry["k"], 1)]
            self.assertLessEqual(tellings_to_the_end(calls + late), len(model.steps) + 1, calls)

    def test_e_the_same_answer_once_more_changes_nothing(self):
        for calls, told, model in self.runs:
            doubled, places = double_answers(calls)
            again = split(answers(doubled))
            self.assertEqual([one for place, one in enumerate(again) if place not in places], told, doubled)
            for place in places:
                self.assertIn(again[place], ((0, 0), (0, -2), (0, -22)), doubled)

    def test_e_all_the_answers_once_more_at_the_end(self):
        for calls, told, model in self.runs:
            made = calls_of(calls)
            # Answers from ahead of the last lb_start speak of another business.
            first = max(place for place, call in enumerate(made) if call[0] == 0 and told[place] == ZERO)
            taken = [call for call, one in list(zip(made, told))[first:] if call[0] == 2 and one == (0, 1)]
            same = calls_of(answer_anew(taken))
            after = [[5]] + [[6, i] for i in range(len(model.steps))] + [[1]]
            plain = split(answers(calls + [number for call in after for number in call]))
            again = split(answers(calls + [number for call in same + after for number in call]))
            self.assertEqual(again[-len(after):], plain[-len(after):], calls)
            self.assertEqual(set(again[len(told):len(told) + len(same)]) - {ZERO}, set(), calls)


class Watch:
    """Follows a run by what the program answers alone, and notes what was looked at and what was broken."""

    def __init__(self):
        self.looked = {letter: 0 for letter in ("a done", "a undone", "b to be done", "b to be undone", "c", "7")}
        self.broken = []

    def note(self, letter, holds):
        self.looked[letter] += 1
        if not holds:
            self.broken.append(letter)

    def see(self, call, told):
        if call[0] == 0 and told == ZERO:
            self.steps = [call[at:at + 4] for at in range(2, len(call), 4)]
            self.tellings = {}
        elif call[0] == 1 and told != NOTHING:
            self.see_telling(told[1], told[2])
            self.tellings[told[1:]] = None
        elif call[0] == 2 and told == (0, 1):
            i, what, k, ok = call[1:]
            self.tellings[what, i, k] = ok
        elif call[0] in (3, 5) and told != WRONG:
            self.see_way(told[1])
        elif call[0] == 4:
            self.see_stop(told)
        elif call[0] == 6:
            self.see_step(call[1], told)

    def replies(self, what, i):
        return [ok for key, ok in self.tellings.items() if key[:2] == (what, i)]

    def clean(self, i):
        return 1 in self.replies(1, i) or set(self.replies(0, i)) <= {0}

    def point_done(self):
        return any(one[3] == 1 and 1 in self.replies(0, i) for i, one in enumerate(self.steps))

    def see_telling(self, what, i):
        everyone = range(len(self.steps))
        if what == 0:
            self.note("b to be done", all(1 in self.replies(0, j) for j in everyone if self.steps[i][0] >> j & 1))
        else:
            self.note("b to be undone", all(self.clean(j) for j in everyone if self.steps[j][0] >> i & 1))
            self.note("c", not self.point_done())

    def see_way(self, way):
        everyone = range(len(self.steps))
        if way == 2:
            self.note("a done", all(1 in self.replies(0, i) and self.replies(1, i) == [] for i in everyone))
        if way == 3:
            self.note("a undone", all(self.clean(i) for i in everyone))
        if self.point_done():
            self.note("c", way in (0, 2))

    def see_stop(self, told):
        if self.point_done():
            self.note("c", told in (TOO_LATE, NOTHING))

    def see_step(self, i, told):
        if i >= len(self.steps):
            self.note("7", told == WRONG)
            return
        standing = 2 if 1 in self.replies(1, i) else 1 if 1 in self.replies(0, i) else 0
        self.note("7", told == seen(len(self.replies(0, i)), len(self.replies(1, i)), standing))


def watch_of(numbers):
    watch = Watch()
    for call, told in zip(calls_of(numbers), split(answers(numbers))):
        watch.see(call, told)
    return watch


def tellings_to_the_end(numbers):
    """How many tellings, each answered well and with time enough between, it takes until it's done or undone."""
    numbers = list(numbers)
    tellings = 0
    idle = 0
    while idle < 2:
        numbers += [5, 1]
        way, told = split(answers(numbers))[-2:]
        if way in ((0, 2), (0, 3)):
            return tellings
        if told == NOTHING:
            idle += 1
        else:
            what, i, k = told[1:]
            numbers += [2, i, what, k, 1]
            idle = 0
            tellings += 1
        numbers += [3, 65535]
    raise AssertionError("it does not come to an end", numbers)


def calls_of(numbers):
    """The calls that stand in a list of numbers, one list for each."""
    calls = []
    at = 0
    while at < len(numbers):
        size = 2 + numbers[at + 1] if numbers[at] == 0 else (0, 1, 5, 2, 1, 1, 2)[numbers[at]]
        calls.append(numbers[at:at + size])
        at += size
    return calls


def answer_anew(taken):
    """Of each telling the answer that was taken last, in numbers."""
    last = {tuple(call[1:4]): call[4] for call in taken}
    return [number for key, ok in last.items() for number in (2, *key, ok)]


def double_answers(numbers):
    """The same calls with each lb_answer made twice, and the places of the second ones."""
    doubled = []
    places = set()
    for call in calls_of(numbers):
        doubled.append(call)
        if call[0] == 2:
            places.add(len(doubled))
            doubled.append(call)
    return [number for call in doubled for number in call], places


if __name__ == "__main__":
    unittest.main()
