"""The desk: calls on one business come in as whole numbers and are answered in whole numbers."""

WRONG = -22
TOO_LATE = -16
NOTHING = -11
NOT_TOLD = -2

START = 0
NEXT = 1
ANSWER = 2
TICK = 3
STOP = 4
STEP = 6

# How many numbers a call has, its own number among them; lb_start tells its length itself.
CALL_SIZES = (None, 1, 5, 2, 1, 1, 2)

NUMBER_FORM = 0
THREE_FORM = 1

ON = 0
BACK = 1
DONE = 2
UNDONE = 3

AHEAD = 0
POINT = 1
BEHIND = 2

TO_DO = 0
TO_UNDO = 1

UNANSWERED = 0
ILL = 1
WELL = 2

NEITHER = 0
WAS_DONE = 1
WAS_UNDONE = 2

NUMBERS_A_STEP = 4
MOST_STEPS = 32
MOST_WAIT = 65535
MOST_TRIES = 8
MOST_TICKS = 65535

# Up to this telling to do each answer counts for itself; of later ones only the last may be answered ill.
MOST_KEPT = 8


class Tellings:
    """The tellings of one step that it be done, or those that it be undone."""

    def __init__(self, wait):
        self.wait = wait
        self.replies = []
        self.last_time = 0
        self.well = False

    def how_many(self):
        return len(self.replies)

    def tell(self, now):
        self.replies.append(UNANSWERED)
        self.last_time = now

    def take_reply(self, k, reply):
        self.replies[k - 1] = reply
        if reply == WELL:
            self.well = True

    def is_told(self, k):
        return 1 <= k <= len(self.replies)

    def is_last(self, k):
        return k == len(self.replies)

    def is_answered(self, k):
        return self.replies[k - 1] != UNANSWERED

    def all_answered(self):
        return UNANSWERED not in self.replies

    def last_over(self, now):
        reply = self.replies[-1]
        if reply == UNANSWERED:
            return now - self.last_time >= self.wait
        return reply == ILL

    def may_tell(self, now):
        return len(self.replies) == 0 or self.last_over(now)


class Step:
    """One step, with all that was told and answered of it."""

    def __init__(self, needs, wait, tries, kind):
        self.needs = needs
        self.wait = wait
        self.tries = tries
        self.kind = kind
        self.doing = Tellings(wait)
        self.undoing = Tellings(wait)

    def was_done(self):
        return self.doing.well

    def was_undone(self):
        return self.undoing.well

    def is_clean(self):
        if self.was_undone():
            return True
        return not self.was_done() and self.doing.all_answered()

    def is_given_up(self, now):
        if self.was_done() or self.kind == BEHIND:
            return False
        if self.doing.how_many() != self.tries or not self.doing.last_over(now):
            return False
        # A point that may yet turn out to be done must not be gone back from.
        return self.kind != POINT or self.doing.all_answered()

    def is_point_told(self):
        return self.kind == POINT and self.doing.how_many() > 0

    def standing(self):
        if self.was_undone():
            return WAS_UNDONE
        return WAS_DONE if self.was_done() else NEITHER

    def tellings(self, what):
        return self.doing if what == TO_DO else self.undoing

    def is_nothing_new(self, what, k, ok):
        if self.was_undone():
            return True
        if what == TO_DO:
            return self.is_nothing_new_of_doing(k, ok)
        return ok == 0 and (not self.undoing.is_last(k) or self.undoing.is_answered(k))

    def is_nothing_new_of_doing(self, k, ok):
        if k <= MOST_KEPT:
            return self.doing.is_answered(k)
        if self.was_done():
            return True
        if self.doing.is_last(k):
            return self.doing.is_answered(k)
        return ok == 0


class Business:
    """A business that was started: its steps, its time, and where it goes."""

    def __init__(self, steps):
        self.steps = steps
        self.now = 0
        self.way = ON

    def tell_next(self):
        what = TO_DO
        place = None
        if self.way == ON:
            place = self.place_to_do()
        elif self.way == BACK:
            what = TO_UNDO
            place = self.place_to_undo()
        if place is None:
            return [NUMBER_FORM, NOTHING]
        # A fresh telling is neither over nor answered, so there is nothing to settle behind it.
        told = self.steps[place].tellings(what)
        told.tell(self.now)
        return [THREE_FORM, what, place, told.how_many()]

    def place_to_do(self):
        done = self.done_bits()
        for place, step in enumerate(self.steps):
            if step.was_done() or step.needs & done != step.needs:
                continue
            # While it goes on no step is given up: settle would have turned it back.
            if step.doing.may_tell(self.now):
                return place
        return None

    def done_bits(self):
        bits = 0
        for place, step in enumerate(self.steps):
            if step.was_done():
                bits |= 1 << place
        return bits

    def place_to_undo(self):
        # Whoever needs a step has a greater number, so from the last down they have all been seen.
        held = 0
        for place in range(len(self.steps) - 1, -1, -1):
            step = self.steps[place]
            if step.is_clean():
                continue
            if held >> place & 1 == 0 and step.undoing.may_tell(self.now):
                return place
            held |= step.needs
        return None

    def take_answer(self, i, what, k, ok):
        if i >= len(self.steps) or what > TO_UNDO or ok > 1:
            return WRONG
        step = self.steps[i]
        told = step.tellings(what)
        if not told.is_told(k):
            return NOT_TOLD
        if step.is_nothing_new(what, k, ok):
            return 0
        told.take_reply(k, WELL if ok == 1 else ILL)
        self.settle()
        return 1

    def tick(self, ticks):
        if ticks > MOST_TICKS:
            return WRONG
        self.now += ticks
        self.settle()
        return self.way

    def turn_back(self):
        if self.way != ON:
            return NOTHING
        if any([step.is_point_told() for step in self.steps]):
            return TOO_LATE
        self.way = BACK
        self.settle()
        return 0

    def tell_step(self, i):
        if i >= len(self.steps):
            return [NUMBER_FORM, WRONG]
        step = self.steps[i]
        return [THREE_FORM, step.doing.how_many(), step.undoing.how_many(), step.standing()]

    def settle(self):
        if self.way == ON:
            if any([step.is_given_up(self.now) for step in self.steps]):
                self.way = BACK
            elif all([step.was_done() for step in self.steps]):
                self.way = DONE
        # Not an elif: where nothing is left to undo, going back ends at once.
        if self.way == BACK and all([step.is_clean() for step in self.steps]):
            self.way = UNDONE


class Desk:
    """Holds the business that the calls of one list speak of."""

    def __init__(self):
        self.business = None

    def take_call(self, call):
        if call[0] == START:
            return [NUMBER_FORM, self.start(call[2:])]
        if call[0] == NEXT:
            return self.business.tell_next()
        if call[0] == STEP:
            return self.business.tell_step(call[1])
        return [NUMBER_FORM, self.number_for(call)]

    def number_for(self, call):
        if call[0] == ANSWER:
            return self.business.take_answer(call[1], call[2], call[3], call[4])
        if call[0] == TICK:
            return self.business.tick(call[1])
        if call[0] == STOP:
            return self.business.turn_back()
        # lb_how is the one that's left.
        return self.business.way

    def start(self, numbers):
        steps = read_steps(numbers)
        if not are_steps_fit(steps):
            return WRONG
        self.business = Business(steps)
        return 0


def read_steps(numbers):
    return [Step(numbers[at], numbers[at + 1], numbers[at + 2], numbers[at + 3])
            for at in range(0, len(numbers), NUMBERS_A_STEP)]


def are_steps_fit(steps):
    if not 1 <= len(steps) <= MOST_STEPS:
        return False
    if not all([is_step_fit(place, step) for place, step in enumerate(steps)]):
        return False
    points = [place for place, step in enumerate(steps) if step.kind == POINT]
    if len(points) == 0:
        return all([step.kind == AHEAD for step in steps])
    return len(points) == 1 and are_kinds_fit(steps, points[0])


def is_step_fit(place, step):
    if step.needs >> place != 0:
        return False
    return 1 <= step.wait <= MOST_WAIT and 1 <= step.tries <= MOST_TRIES and step.kind <= BEHIND


def are_kinds_fit(steps, point):
    reach = all_needs(steps)
    for place, step in enumerate(steps):
        if step.kind == AHEAD and reach[point] >> place & 1 == 0:
            return False
        if step.kind == BEHIND and reach[place] >> point & 1 == 0:
            return False
    return True


def all_needs(steps):
    """For each step the bits of all that it needs, by way of others too."""
    reach = []
    for step in steps:
        bits = step.needs
        for place, further in enumerate(reach):
            if step.needs >> place & 1 == 1:
                bits |= further
        reach.append(bits)
    return reach


def call_size(calls, at):
    if calls[at] == START:
        return 2 + calls[at + 1]
    return CALL_SIZES[calls[at]]


def answers(calls):
    """Answers each call of the list in turn: how many numbers are answered, then these."""
    desk = Desk()
    told = []
    at = 0
    while at < len(calls):
        size = call_size(calls, at)
        answered = desk.take_call(calls[at:at + size])
        told.append(len(answered))
        told.extend(answered)
        at += size
    return told
