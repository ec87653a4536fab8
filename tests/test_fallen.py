"""[3.2] Behind a fallen flag the clock stands still, and all is refused but what is told."""

from helper import ClockCase, MOST_WHOLE, WAYS, main, make_moves, over, picture, running

from chessclock.errors import BadTicks, Over


def fallen_clocks():
    clocks = [running(main(None, 10, way, 3)) for way in WAYS]
    clocks += [running(main(2, 10), over()), running(main(None, 10), over(2, 5)), running(over(3, 5))]
    for clock in list(clocks):
        clock.go(100)
    late = running(main(1, 10), over(2, 5))
    make_moves(late, 4, 4, 7)
    late.go(100)
    return clocks + [late]


class Fallen(ClockCase):
    def test_the_clock_stands_still(self):
        for clock in fallen_clocks():
            game = clock.game()
            self.assertIs(game[1], False)
            self.assertEqual(game[2], game[0])

    def test_each_deed_is_refused(self):
        for clock in fallen_clocks():
            self.assert_refused(Over, clock, "start")
            self.assert_refused(Over, clock, "stop")
            for who in (0, 1):
                self.assert_refused(Over, clock, "press", who)
                for ticks in (1, 0, -1, 10, MOST_WHOLE, -MOST_WHOLE):
                    self.assert_refused(Over, clock, "give", who, ticks)

    def test_go_is_refused_behind_bad_ticks(self):
        for clock in fallen_clocks():
            for ticks in (0, 1, 100, MOST_WHOLE):
                self.assert_refused(Over, clock, "go", ticks)
            for ticks in (-1, -100, -MOST_WHOLE):
                self.assert_refused(BadTicks, clock, "go", ticks)
            self.assert_refused(Over, clock, "go", 0)

    def test_what_is_told_is_told_on_and_on(self):
        for clock in fallen_clocks():
            before = picture(clock)
            self.assertEqual(picture(clock), before)

    def test_the_flag_of_either_side(self):
        for who in (0, 1):
            clock = running(main(None, 10))
            make_moves(clock, *([2] * (2 + who)))
            clock.go(100)
            self.assertEqual(clock.game()[:3], (who, False, who))
            self.assert_refused(Over, clock, "press", who)
            self.assert_refused(Over, clock, "press", 1 - who)
