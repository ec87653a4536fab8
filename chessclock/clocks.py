"""The clock of a game: two sides' times, of which the one in turn goes while the clock runs."""

from chessclock.errors import BadTicks, NotNow, Over
from chessclock.sides import Side
from chessclock.stages import read_stages


class Clock:
    def __init__(self, stages):
        own_stages = read_stages(stages)
        self.sides = (Side(own_stages), Side(own_stages))
        self.turn = 0
        self.running = False
        self.fallen = None
        self.passed = 0

    def refuse_if_over(self):
        if self.fallen is not None:
            raise Over("a flag has fallen")

    def refuse_if_running(self):
        if self.running:
            raise NotNow("the clock runs")

    def refuse_if_still(self):
        if not self.running:
            raise NotNow("the clock stands still")

    def start(self):
        self.refuse_if_over()
        self.refuse_if_running()
        self.running = True

    def stop(self):
        self.refuse_if_over()
        self.refuse_if_still()
        self.running = False

    def go(self, ticks):
        if ticks < 0:
            raise BadTicks("ticks go by from 0 on")
        self.refuse_if_over()
        if not self.running:
            return ticks
        side = self.sides[self.turn]
        gone = side.pass_ticks(ticks)
        self.passed += gone
        if side.has_fallen():
            self.fallen = self.turn
            self.running = False
        return gone

    def press(self, who):
        self.refuse_if_over()
        self.refuse_if_still()
        if who != self.turn:
            raise NotNow("it is the other side's turn")
        self.sides[who].make_move()
        self.turn = 1 - who

    def give(self, who, ticks):
        self.refuse_if_over()
        self.refuse_if_running()
        self.sides[who].put_right(ticks)

    def state(self, who):
        return self.sides[who].told()

    def game(self):
        return (self.turn, self.running, self.fallen, self.passed)
