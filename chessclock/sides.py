"""A side's time: how its ticks go, what a made move gets it, and which stage it is in."""

from chessclock.errors import BadTicks
from chessclock.stages import is_endless, is_over, ticks_of

LEAST_LEFT = 1
MOST_LEFT = 10000000


def ticks_not_counted(stage, passed):
    if is_over(stage) or stage[3] != "wait":
        return 0
    return max(0, stage[4] - passed)


def ticks_for_move(stage, passed):
    if stage[3] == "add":
        return stage[4]
    if stage[3] == "back":
        return min(stage[4], passed)
    return 0


class Side:
    def __init__(self, stages):
        self.stages = stages
        self.number = 0
        self.moves_in_stage = 0
        self.left = 0
        self.periods = 0
        self.moves = 0
        self.passed = 0
        self.begin_stage(0)

    def begin_stage(self, number):
        self.number = number
        self.moves_in_stage = 0
        stage = self.stages[number]
        if is_over(stage):
            self.periods = stage[1]
            self.left = ticks_of(stage)
        else:
            self.left += ticks_of(stage)

    # Whatever lets a side go on refills what is left at once, so nothing left is a fallen flag.
    def has_fallen(self):
        return self.left == 0

    # Answers how many ticks went by: all of them, or those up to the one at which the flag fell.
    def pass_ticks(self, ticks):
        gone = 0
        while gone < ticks and not self.has_fallen():
            gone += self.pass_until_empty(ticks - gone)
        return gone

    # One step takes as many ticks as there are ahead of the next change, so that the biggest number is quick too.
    def pass_until_empty(self, ticks):
        free = ticks_not_counted(self.stages[self.number], self.passed)
        gone = min(ticks, free + self.left)
        self.passed += gone
        self.left -= max(0, gone - free)
        if self.left == 0:
            self.go_on_if_possible()
        return gone

    def go_on_if_possible(self):
        stage = self.stages[self.number]
        if is_over(stage):
            self.periods -= 1
            if self.periods > 0:
                self.left = ticks_of(stage)
        elif is_endless(stage) and self.number + 1 < len(self.stages):
            self.begin_stage(self.number + 1)

    def make_move(self):
        stage = self.stages[self.number]
        self.moves += 1
        if is_over(stage):
            self.left = ticks_of(stage)
        else:
            self.left += ticks_for_move(stage, self.passed)
            self.count_move_in_stage(stage)
        self.passed = 0

    def count_move_in_stage(self, stage):
        self.moves_in_stage += 1
        # With moves None the two are never equal, so such a stage does not end by moves.
        if self.moves_in_stage == stage[1]:
            self.begin_stage(self.number + 1)

    def put_right(self, ticks):
        if not LEAST_LEFT <= self.left + ticks <= MOST_LEFT:
            raise BadTicks(f"a side must have {LEAST_LEFT} to {MOST_LEFT} ticks then")
        self.left += ticks

    def told(self):
        return (self.left, self.periods, self.moves, self.number, self.passed)
