"""[3.3] What is told of a side and of the game, at first and behind each kind of deed."""

from helper import ClockCase, main, over, running

from chessclock.clocks import Clock


class Told(ClockCase):
    def assert_picture(self, clock, first, second, game):
        self.assert_told(clock.state(0), first)
        self.assert_told(clock.state(1), second)
        self.assert_told(clock.game(), game)

    def test_at_first(self):
        untouched = (100, 0, 0, 0, 0)
        self.assert_picture(Clock([main(2, 100), over(2, 30)]), untouched, untouched, (0, False, None, 0))
        untouched = (30, 2, 0, 0, 0)
        self.assert_picture(Clock([over(2, 30)]), untouched, untouched, (0, False, None, 0))

    def test_behind_each_deed_of_a_game(self):
        clock = Clock([main(1, 100, "add", 3), main(None, 20), over(2, 30)])
        other = (100, 0, 0, 0, 0)
        clock.go(9)
        self.assert_picture(clock, (100, 0, 0, 0, 0), other, (0, False, None, 0))
        clock.start()
        self.assert_picture(clock, (100, 0, 0, 0, 0), other, (0, True, None, 0))
        clock.go(10)
        self.assert_picture(clock, (90, 0, 0, 0, 10), other, (0, True, None, 10))
        clock.go(5)
        self.assert_picture(clock, (85, 0, 0, 0, 15), other, (0, True, None, 15))
        clock.stop()
        self.assert_picture(clock, (85, 0, 0, 0, 15), other, (0, False, None, 15))
        clock.give(0, 7)
        self.assert_picture(clock, (92, 0, 0, 0, 15), other, (0, False, None, 15))
        clock.give(1, -60)
        self.assert_picture(clock, (92, 0, 0, 0, 15), (40, 0, 0, 0, 0), (0, False, None, 15))
        clock.start()
        clock.press(0)
        self.assert_picture(clock, (115, 0, 1, 1, 0), (40, 0, 0, 0, 0), (1, True, None, 15))
        clock.go(4)
        self.assert_picture(clock, (115, 0, 1, 1, 0), (36, 0, 0, 0, 4), (1, True, None, 19))
        clock.press(1)
        self.assert_picture(clock, (115, 0, 1, 1, 0), (59, 0, 1, 1, 0), (0, True, None, 19))
        clock.go(120)
        self.assert_picture(clock, (25, 2, 1, 2, 120), (59, 0, 1, 1, 0), (0, True, None, 139))
        clock.go(25)
        self.assert_picture(clock, (30, 1, 1, 2, 145), (59, 0, 1, 1, 0), (0, True, None, 164))
        clock.press(0)
        self.assert_picture(clock, (30, 1, 2, 2, 0), (59, 0, 1, 1, 0), (1, True, None, 164))
        clock.press(1)
        clock.go(1000)
        self.assert_picture(clock, (0, 0, 2, 2, 30), (59, 0, 2, 1, 0), (0, False, 0, 194))

    def test_behind_the_flag_of_the_second_side_in_main(self):
        clock = running(main(None, 100))
        clock.go(1)
        clock.press(0)
        clock.go(1000)
        self.assert_picture(clock, (99, 0, 1, 0, 0), (0, 0, 0, 0, 100), (1, False, 1, 101))

    def test_asking_changes_nothing(self):
        clock = running(main(None, 100))
        clock.go(5)
        for _ in range(3):
            self.assert_picture(clock, (95, 0, 0, 0, 5), (100, 0, 0, 0, 0), (0, True, None, 5))

    def test_ticks_that_do_not_count_are_told_as_gone_by_all_the_same(self):
        clock = running(main(None, 100, "wait", 10))
        clock.go(8)
        self.assert_picture(clock, (100, 0, 0, 0, 8), (100, 0, 0, 0, 0), (0, True, None, 8))

    def test_ticks_told_while_it_stands_still_are_not_in_the_sum(self):
        clock = Clock([main(None, 100)])
        clock.go(40)
        clock.start()
        clock.go(3)
        clock.stop()
        clock.go(40)
        clock.start()
        clock.go(4)
        self.assert_told(clock.game(), (0, True, None, 7))
