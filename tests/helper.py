"""What several tests need: stages, clocks, games by number, and a slow clock to hold the real one against."""

import unittest

from chessclock.clocks import Clock
from chessclock.errors import BadTicks, ClockError, NotNow, Over

WAYS = ("plain", "add", "back", "wait")
MOST_WHOLE = 10 ** 15 - 1
MOST_GIVEN = 10000000


def main(moves=None, ticks=900, way="plain", extra=0):
    return ("main", moves, ticks, way, extra)


def over(periods=3, ticks=60):
    return ("over", periods, ticks)


def running(*stages):
    clock = Clock(list(stages))
    clock.start()
    return clock


def make_moves(clock, *lengths):
    for ticks in lengths:
        clock.go(ticks)
        clock.press(clock.game()[0])


# Both sides move alike, so that a test may speak of one of them.
def make_moves_of_both(clock, *lengths):
    for ticks in lengths:
        make_moves(clock, ticks, ticks)


def picture(clock):
    return (clock.state(0), clock.state(1), clock.game())


def outcome(deed, *things):
    try:
        return ("told", deed(*things))
    except ClockError as refusal:
        return (type(refusal).__name__, None)


class ClockCase(unittest.TestCase):
    # A refusal of whatever class changes nothing ([3.2]), so each one that is tested is tested for that too.
    def assert_refused(self, error, clock, deed, *things):
        before = picture(clock)
        with self.assertRaises(error) as caught:
            getattr(clock, deed)(*things)
        self.assertIs(type(caught.exception), error)
        self.assertEqual(picture(clock), before)

    # True and False pass for 1 and 0 by ==, so the kinds are held apart by name.
    def assert_told(self, told, wanted):
        self.assertEqual(told, wanted)
        self.assertEqual([type(thing) for thing in told], [type(thing) for thing in wanted])
        self.assertIs(type(told), tuple)


class Chooser:
    """Numbers that look like chance and are the same on each run and each Python."""

    def __init__(self, seed):
        self.seed = seed

    def below(self, most):
        self.seed = (self.seed * 6364136223846793005 + 1442695040888963407) % 2 ** 64
        return (self.seed >> 33) % most

    def between(self, least, most):
        return least + self.below(most - least + 1)

    def one_of(self, things):
        return things[self.below(len(things))]


def choose_main(chooser, moves):
    return main(moves, chooser.between(1, 40), chooser.one_of(WAYS), chooser.between(0, 8))


def choose_stages(chooser):
    stages = [choose_main(chooser, chooser.between(1, 3)) for _ in range(chooser.below(4))]
    ending = chooser.below(3)
    if ending != 0:
        stages.append(choose_main(chooser, None))
    if ending != 1:
        stages.append(over(chooser.between(1, 4), chooser.between(1, 9)))
    return stages


# A deed is a method's name with what is handed to it; most go on with the game, some are to be refused.
def choose_deed(chooser, turn):
    kind = chooser.below(20)
    if kind < 8:
        return ("go", chooser.between(0, 7))
    if kind < 13:
        return ("press", turn)
    if kind < 14:
        return ("press", 1 - turn)
    if kind < 16:
        return ("start",)
    if kind < 17:
        return ("stop",)
    if kind < 18:
        return ("go", chooser.one_of((-1, -5, 30, 1)))
    return ("give", chooser.below(2), chooser.between(-12, 15))


class SlowSide:
    def __init__(self, stages):
        self.stages = stages
        self.at = 0
        self.made = 0
        self.made_here = 0
        self.taken = 0
        self.left = stages[0][2]
        self.periods = stages[0][1] if stages[0][0] == "over" else 0

    def begin_next(self):
        self.at += 1
        self.made_here = 0
        stage = self.stages[self.at]
        if stage[0] == "over":
            self.periods, self.left = stage[1:]
        else:
            self.left += stage[2]

    # Tells whether the flag falls at this tick.
    def tick(self):
        stage = self.stages[self.at]
        self.taken += 1
        if stage[0] == "main" and stage[3] == "wait" and self.taken <= stage[4]:
            return False
        self.left -= 1
        if self.left > 0:
            return False
        if stage[0] == "over":
            self.periods -= 1
            self.left = stage[2] if self.periods else 0
            return self.periods == 0
        if stage[1] is not None or stage == self.stages[-1]:
            return True
        self.begin_next()
        return False

    def move(self):
        stage = self.stages[self.at]
        taken, self.taken = self.taken, 0
        self.made += 1
        self.made_here += 1
        if stage[0] == "over":
            self.left = stage[2]
            return
        self.left += {"add": stage[4], "back": min(taken, stage[4])}.get(stage[3], 0)
        if self.made_here == stage[1]:
            self.begin_next()


class SlowClock:
    """The document's words, one tick after another."""

    def __init__(self, stages):
        self.sides = [SlowSide(stages), SlowSide(stages)]
        self.who, self.runs, self.flag, self.ticks = 0, False, None, 0

    def refuse(self, error, wrong):
        if self.flag is not None:
            raise Over()
        if wrong:
            raise error()

    def start(self):
        self.refuse(NotNow, self.runs)
        self.runs = True

    def stop(self):
        self.refuse(NotNow, not self.runs)
        self.runs = False

    def go(self, ticks):
        if ticks < 0:
            raise BadTicks()
        self.refuse(NotNow, False)
        if not self.runs:
            return ticks
        for told in range(1, ticks + 1):
            self.ticks += 1
            if self.sides[self.who].tick():
                self.flag, self.runs = self.who, False
                return told
        return ticks

    def press(self, who):
        self.refuse(NotNow, not self.runs or who != self.who)
        self.sides[who].move()
        self.who = 1 - who

    def give(self, who, ticks):
        self.refuse(NotNow, self.runs)
        self.refuse(BadTicks, not 1 <= self.sides[who].left + ticks <= MOST_GIVEN)
        self.sides[who].left += ticks

    def state(self, who):
        side = self.sides[who]
        return (side.left, side.periods, side.made, side.at, side.taken)

    def game(self):
        return (self.who, self.runs, self.flag, self.ticks)
