"""What the tests share: calls by name, answers split call by call, and a plain model of the document."""

from longdeed.desk import answers

WRONG = (0, -22)
TOO_LATE = (0, -16)
NOTHING = (0, -11)
NOT_TOLD = (0, -2)
ZERO = (0, 0)
ONE = (0, 1)

ON = (0, 0)
BACK = (0, 1)
DONE = (0, 2)
UNDONE = (0, 3)

NEXT = [1]
STOP = [4]
HOW = [5]


def step(needs=(), wait=10, tries=2, kind=0):
    return [sum(1 << place for place in needs), wait, tries, kind]


def start(*steps):
    numbers = [number for one in steps for number in one]
    return [0, len(numbers)] + numbers


def well(i, k, what=0):
    return [2, i, what, k, 1]


def ill(i, k, what=0):
    return [2, i, what, k, 0]


def tick(ticks):
    return [3, ticks]


def look(i):
    return [6, i]


def seen(done, undone, standing):
    """What lb_step_ answers of a step told so often to be done, and to be undone."""
    return (1, done, undone, standing)


def do(i, k):
    """What lb_next answers where step i is to be done, for the k-th time."""
    return (1, 0, i, k)


def undo(i, k):
    return (1, 1, i, k)


def split(told):
    parts = []
    at = 0
    while at < len(told):
        parts.append(tuple(told[at + 1:at + 1 + told[at]]))
        at += 1 + told[at]
    return parts


def ask(*calls):
    """The answers of all these calls, one tuple for each."""
    return split(answers([number for call in calls for number in call]))


def fit(steps):
    """Whether steps (lists of needs, wait, tries, kind) are as the document tells."""
    if not 1 <= len(steps) <= 32:
        return False
    for place, (needs, wait, tries, kind) in enumerate(steps):
        if needs >= 2 ** place or not 1 <= wait <= 65535 or not 1 <= tries <= 8 or kind not in (0, 1, 2):
            return False

    def reaches(upper, lower):
        return any(steps[upper][0] >> mid & 1 and (mid == lower or reaches(mid, lower)) for mid in range(upper))

    kinds = [one[3] for one in steps]
    if kinds.count(1) == 0:
        return set(kinds) == {0}
    if kinds.count(1) > 1:
        return False
    point = kinds.index(1)
    return (all(reaches(point, i) for i, kind in enumerate(kinds) if kind == 0)
            and all(reaches(i, point) for i, kind in enumerate(kinds) if kind == 2))


class Model:
    """The document's words over a bare log of tellings, nothing counted ahead."""

    def __init__(self):
        self.steps = None

    def start(self, steps):
        if not fit(steps):
            return WRONG
        self.steps = steps
        self.time = 0
        self.way = 0
        # Of each telling: what, step, number, when it was told, its answer (None, 0 or 1).
        self.log = []
        return ZERO

    def of(self, what, i):
        return [entry for entry in self.log if entry["what"] == what and entry["i"] == i]

    def over(self, entry):
        if entry["answer"] is None:
            return self.time - entry["time"] >= self.steps[entry["i"]][1]
        return entry["answer"] == 0

    def answered_well(self, what, i):
        return any(entry["well"] for entry in self.of(what, i))

    def given_up(self, i):
        needs, wait, tries, kind = self.steps[i]
        tellings = self.of(0, i)
        if self.answered_well(0, i) or len(tellings) != tries or not self.over(tellings[-1]):
            return False
        if kind == 1:
            return all(entry["answer"] is not None for entry in tellings)
        return kind == 0

    def clean(self, i):
        if self.answered_well(1, i):
            return True
        return not self.answered_well(0, i) and all(entry["answer"] == 0 for entry in self.of(0, i))

    def settle(self):
        everyone = range(len(self.steps))
        if self.way == 0 and any(self.given_up(i) for i in everyone):
            self.way = 1
        if self.way == 0 and all(self.answered_well(0, i) for i in everyone):
            self.way = 2
        if self.way == 1 and all(self.clean(i) for i in everyone):
            self.way = 3

    def tell(self, what, i):
        k = len(self.of(what, i)) + 1
        self.log.append({"what": what, "i": i, "k": k, "time": self.time, "answer": None, "well": False})
        self.settle()
        return (1, what, i, k)

    def free(self, what, i):
        tellings = self.of(what, i)
        return not tellings or self.over(tellings[-1])

    def next(self):
        n = len(self.steps)
        if self.way == 0:
            for i in range(n):
                ready = all(self.answered_well(0, j) for j in range(n) if self.steps[i][0] >> j & 1)
                if not self.answered_well(0, i) and ready and self.free(0, i) and not self.given_up(i):
                    return self.tell(0, i)
        if self.way == 1:
            for i in reversed(range(n)):
                ready = all(self.clean(j) for j in range(n) if self.steps[j][0] >> i & 1)
                if not self.clean(i) and ready and self.free(1, i):
                    return self.tell(1, i)
        return NOTHING

    def nothing_new(self, what, i, k, ok):
        tellings = self.of(what, i)
        last = k == len(tellings)
        answered = tellings[k - 1]["answer"] is not None
        if self.answered_well(1, i):
            return True
        if what == 1:
            return ok == 0 and (not last or answered)
        if k <= 8:
            return answered
        return self.answered_well(0, i) or (last and answered) or (not last and ok == 0)

    def answer(self, i, what, k, ok):
        if i >= len(self.steps) or what > 1 or ok > 1:
            return WRONG
        if not 1 <= k <= len(self.of(what, i)):
            return NOT_TOLD
        if self.nothing_new(what, i, k, ok):
            return ZERO
        entry = self.of(what, i)[k - 1]
        entry["answer"] = ok
        entry["well"] = entry["well"] or ok == 1
        self.settle()
        return ONE

    def tick(self, ticks):
        if ticks > 65535:
            return WRONG
        self.time += ticks
        self.settle()
        return (0, self.way)

    def stop(self):
        if self.way != 0:
            return NOTHING
        if any(entry["what"] == 0 and self.steps[entry["i"]][3] == 1 for entry in self.log):
            return TOO_LATE
        self.way = 1
        self.settle()
        return ZERO

    def how(self):
        return (0, self.way)

    def look(self, i):
        if i >= len(self.steps):
            return WRONG
        standing = 2 if self.answered_well(1, i) else 1 if self.answered_well(0, i) else 0
        return seen(len(self.of(0, i)), len(self.of(1, i)), standing)
