"""[0.2] No tick is lost and none is made, however the ticks are told."""

from helper import (
    Chooser, ClockCase, SlowClock, WAYS, choose_deed, choose_stages, main, over, outcome, picture, running,
)

from chessclock.clocks import Clock

GAMES = 1500
DEEDS = 100
# Games that never come to a flag, a late stage or a refusal would show little.
WANTED = (
    ("flag", 0), ("flag", 1), ("flag", None), ("stage", 0), ("stage", 3), ("stage", 4),
    ("go", "told"), ("go", "BadTicks"), ("go", "Over"),
    ("press", "told"), ("press", "NotNow"), ("press", "Over"),
    ("give", "told"), ("give", "NotNow"), ("give", "BadTicks"), ("give", "Over"),
    ("start", "told"), ("start", "NotNow"), ("start", "Over"),
    ("stop", "told"), ("stop", "NotNow"), ("stop", "Over"),
)


class InParts:
    """A clock to which the ticks of a go are told in parts."""

    def __init__(self, clock, next_part):
        self.clock = clock
        self.next_part = next_part

    def do(self, deed, *things):
        if deed == "go" and things[0] > 0:
            return self.go(things[0])
        return getattr(self.clock, deed)(*things)

    def go(self, ticks):
        told = 0
        while told < ticks:
            part = min(self.next_part(), ticks - told)
            gone = self.clock.go(part)
            told += gone
            if self.clock.game()[2] is not None:
                break
        return told


class ManyGames(ClockCase):
    def play(self, seed, seen):
        chooser, parts = Chooser(seed), Chooser(seed + 1000000)
        stages = choose_stages(chooser)
        whole, ones, some = Clock(stages), Clock(stages), Clock(stages)
        slow = SlowClock(stages)
        by_ones = InParts(ones, lambda: 1)
        by_some = InParts(some, lambda: parts.between(1, 3))
        history = [stages]
        for _ in range(DEEDS):
            deed = choose_deed(chooser, slow.game()[0])
            history.append(deed)
            wanted = outcome(getattr(slow, deed[0]), *deed[1:])
            seen.add((deed[0], wanted[0]))
            self.assertEqual(outcome(getattr(whole, deed[0]), *deed[1:]), wanted, history)
            self.assertEqual(outcome(by_ones.do, *deed), wanted, history)
            self.assertEqual(outcome(by_some.do, *deed), wanted, history)
            for clock in (whole, ones, some):
                self.assertEqual(picture(clock), picture(slow), history)
        seen.add(("flag", slow.game()[2]))
        seen.add(("stage", slow.state(0)[3]))

    def test_by_one_by_some_and_all_at_once(self):
        seen = set()
        for seed in range(GAMES):
            self.play(seed, seen)
        self.assertEqual([wanted for wanted in WANTED if wanted not in seen], [])


class WrittenGames(ClockCase):
    def test_each_split_of_one_go(self):
        for stages in (
            [main(None, 9, "wait", 4)],
            [main(None, 5, "wait", 3), over(3, 2)],
            [main(None, 5, "back", 3), over(2, 4)],
            [over(4, 3)],
        ):
            for ticks in range(16):
                whole = running(*stages)
                told = whole.go(ticks)
                for first in range(ticks + 1):
                    split = running(*stages)
                    split_told = split.go(first)
                    if split.game()[2] is None:
                        split_told += split.go(ticks - first)
                    self.assertEqual(split_told, told)
                    self.assertEqual(picture(split), picture(whole))

    # What it had and was given, and what counted of its moves, come to what it has left.
    def test_the_sum(self):
        lengths = (0, 1, 4, 5, 6, 30, 2, 17)
        for way in WAYS:
            clock = running(main(3, 500, way, 5), main(None, 200, way, 5))
            left = 500
            for number, ticks in enumerate(lengths, start=1):
                clock.go(ticks)
                clock.press(0)
                clock.press(1)
                clock.stop()
                clock.give(0, 10 - number)
                clock.start()
                counted = max(0, ticks - 5) if way == "wait" else ticks
                gained = {"add": 5, "back": min(5, ticks)}.get(way, 0)
                left += gained - counted + 10 - number + (200 if number == 3 else 0)
                self.assertEqual(clock.state(0)[0], left)
            self.assertEqual(clock.game()[3], sum(lengths))
