"""[3.1] Start, stop, go, press and give: what each does and tells, and when it is refused."""

from helper import ClockCase, MOST_GIVEN, MOST_WHOLE, WAYS, main, make_moves, over, picture, running

from chessclock.clocks import Clock
from chessclock.errors import BadTicks, NotNow


class StartAndStop(ClockCase):
    def test_they_tell_nothing_and_set_whether_it_runs(self):
        clock = Clock([main()])
        self.assertIs(clock.game()[1], False)
        self.assertIsNone(clock.start())
        self.assertIs(clock.game()[1], True)
        self.assertIsNone(clock.stop())
        self.assertIs(clock.game()[1], False)
        self.assertIsNone(clock.start())
        self.assertIs(clock.game()[1], True)

    def test_they_change_nothing_else(self):
        clock = running(main(), over())
        make_moves(clock, 5)
        clock.go(3)
        for deed, runs in (("stop", False), ("start", True)):
            states = picture(clock)[:2]
            getattr(clock, deed)()
            self.assertEqual(picture(clock), states + ((1, runs, None, 8),))

    def test_start_twice(self):
        clock = running(main())
        self.assert_refused(NotNow, clock, "start")
        clock.go(5)
        self.assert_refused(NotNow, clock, "start")

    def test_stop_while_it_stands_still(self):
        clock = Clock([main()])
        self.assert_refused(NotNow, clock, "stop")
        clock.start()
        clock.stop()
        self.assert_refused(NotNow, clock, "stop")


class Go(ClockCase):
    def test_it_tells_all_ticks_if_no_flag_falls(self):
        clock = running(main(None, 100))
        for ticks in (1, 2, 0, 40):
            self.assertEqual(clock.go(ticks), ticks)
        self.assertEqual(clock.state(0), (57, 0, 0, 0, 43))
        self.assertEqual(clock.game(), (0, True, None, 43))

    def test_no_ticks(self):
        for stage in [main(None, 1, way, 7) for way in WAYS] + [over(1, 1)]:
            clock = running(stage)
            before = picture(clock)
            told = clock.go(0)
            self.assert_told((told,), (0,))
            self.assertEqual(picture(clock), before)

    def test_fewer_than_none(self):
        for ticks in (-1, -2, -1000, -MOST_WHOLE):
            for stage in (main(), over()):
                clock = Clock([stage])
                self.assert_refused(BadTicks, clock, "go", ticks)
                clock.start()
                self.assert_refused(BadTicks, clock, "go", ticks)
                clock.go(5)
                self.assert_refused(BadTicks, clock, "go", ticks)

    def test_more_than_are_left(self):
        for ticks in (100, 101, 1000, MOST_WHOLE):
            clock = running(main(None, 100))
            self.assertEqual(clock.go(ticks), 100)
            self.assertEqual(clock.game(), (0, False, 0, 100))

    def test_a_flag_in_its_midst_behind_earlier_ticks(self):
        clock = running(main(None, 100))
        make_moves(clock, 10, 20, 30)
        clock.go(15)
        self.assertEqual(clock.go(MOST_WHOLE), 65)
        self.assertEqual(clock.state(1), (0, 0, 1, 0, 80))
        self.assertEqual(clock.game(), (1, False, 1, 140))

    def test_while_it_stands_still(self):
        clock = Clock([main(None, 100), over()])
        for ticks in (0, 1, 100, 1000, MOST_WHOLE):
            before = picture(clock)
            self.assert_told((clock.go(ticks),), (ticks,))
            self.assertEqual(picture(clock), before)
        clock.start()
        clock.go(30)
        clock.stop()
        for ticks in (0, 1, 70, 71, MOST_WHOLE):
            before = picture(clock)
            self.assert_told((clock.go(ticks),), (ticks,))
            self.assertEqual(picture(clock), before)


class Press(ClockCase):
    def test_it_tells_nothing_and_turns(self):
        clock = running(main())
        for who in (0, 1, 0, 1):
            self.assertEqual(clock.game()[0], who)
            self.assertIsNone(clock.press(who))
            self.assertEqual(clock.game()[0], 1 - who)
            self.assertIs(clock.game()[1], True)

    def test_out_of_turn(self):
        for stage in (main(), over()):
            clock = running(stage)
            self.assert_refused(NotNow, clock, "press", 1)
            clock.go(5)
            self.assert_refused(NotNow, clock, "press", 1)
            clock.press(0)
            self.assert_refused(NotNow, clock, "press", 0)
            clock.go(5)
            self.assert_refused(NotNow, clock, "press", 0)
            clock.press(1)
            self.assert_refused(NotNow, clock, "press", 1)

    def test_while_it_stands_still(self):
        clock = Clock([main()])
        self.assert_refused(NotNow, clock, "press", 0)
        self.assert_refused(NotNow, clock, "press", 1)
        clock.start()
        make_moves(clock, 5)
        clock.go(5)
        clock.stop()
        self.assert_refused(NotNow, clock, "press", 0)
        self.assert_refused(NotNow, clock, "press", 1)
        clock.start()
        clock.press(1)
        self.assertEqual(clock.game(), (0, True, None, 10))

    def test_a_refused_press_makes_no_move_of_a_stage(self):
        clock = running(main(2, 100), over(2, 30))
        make_moves(clock, 5)
        self.assert_refused(NotNow, clock, "press", 0)
        make_moves(clock, 5)
        self.assertEqual(clock.state(0)[3], 0)
        make_moves(clock, 5)
        self.assertEqual(clock.state(0), (30, 2, 2, 1, 0))


class Give(ClockCase):
    def test_more_and_fewer_to_either_side_in_main(self):
        for who in (0, 1):
            clock = Clock([main(None, 100)])
            self.assertIsNone(clock.give(who, 25))
            self.assertEqual(clock.state(who), (125, 0, 0, 0, 0))
            self.assertIsNone(clock.give(who, -70))
            self.assertEqual(clock.state(who), (55, 0, 0, 0, 0))
            self.assertIsNone(clock.give(who, 0))
            self.assertEqual(clock.state(who), (55, 0, 0, 0, 0))
            self.assertEqual(clock.state(1 - who), (100, 0, 0, 0, 0))
            self.assertEqual(clock.game(), (0, False, None, 0))

    def test_more_and_fewer_to_either_side_in_over(self):
        for who in (0, 1):
            clock = Clock([over(3, 60)])
            self.assertIsNone(clock.give(who, 25))
            self.assertEqual(clock.state(who), (85, 3, 0, 0, 0))
            self.assertIsNone(clock.give(who, -80))
            self.assertEqual(clock.state(who), (5, 3, 0, 0, 0))
            self.assertEqual(clock.state(1 - who), (60, 3, 0, 0, 0))

    def test_the_fewest_and_the_most_that_a_side_may_have_then(self):
        for stage in (main(None, 100), over(3, 100)):
            for who in (0, 1):
                clock = Clock([stage])
                for ticks in (-100, -101, -MOST_WHOLE, MOST_GIVEN - 99, MOST_GIVEN, MOST_WHOLE):
                    self.assert_refused(BadTicks, clock, "give", who, ticks)
                clock.give(who, -99)
                self.assertEqual(clock.state(who)[0], 1)
                self.assert_refused(BadTicks, clock, "give", who, -1)
                clock.give(who, MOST_GIVEN - 1)
                self.assertEqual(clock.state(who)[0], MOST_GIVEN)
                self.assert_refused(BadTicks, clock, "give", who, 1)
                clock.give(who, 0)
                clock.give(who, 1 - MOST_GIVEN)
                self.assertEqual(clock.state(who)[0], 1)

    # By "add" a side may come to have more than may be given; what it has then is out of bounds even with 0.
    def test_to_a_side_that_has_more_already(self):
        clock = running(main(None, 1000000, "add", 1000000))
        make_moves(clock, *([0] * 20))
        clock.stop()
        self.assertEqual(clock.state(0)[0], 11000000)
        for ticks in (1, 0, -1, -999999):
            self.assert_refused(BadTicks, clock, "give", 0, ticks)
        clock.give(0, -1000000)
        self.assertEqual(clock.state(0)[0], MOST_GIVEN)

    def test_while_it_runs(self):
        for stage in (main(None, 100), over(3, 100)):
            clock = running(stage)
            clock.go(5)
            for who in (0, 1):
                for ticks in (10, 0, -10, -100, -MOST_WHOLE, MOST_WHOLE):
                    self.assert_refused(NotNow, clock, "give", who, ticks)

    def test_in_the_midst_of_a_move(self):
        clock = running(main(None, 100))
        clock.go(40)
        clock.stop()
        clock.give(0, 15)
        self.assertEqual(clock.state(0), (75, 0, 0, 0, 40))
        clock.start()
        self.assertEqual(clock.go(74), 74)
        self.assertEqual(clock.go(9), 1)
        self.assertEqual(clock.state(0), (0, 0, 0, 0, 115))

    def test_by_wait_what_is_given_does_not_change_what_counts(self):
        clock = running(main(None, 100, "wait", 10))
        clock.go(4)
        clock.stop()
        clock.give(0, -99)
        clock.start()
        self.assertEqual(clock.go(6), 6)
        self.assertEqual(clock.state(0), (1, 0, 0, 0, 10))
        self.assertEqual(clock.go(2), 1)
        self.assertEqual(clock.game(), (0, False, 0, 11))

    def test_of_over_it_is_for_the_period_alone(self):
        clock = Clock([over(3, 60)])
        clock.give(0, 40)
        clock.give(1, -50)
        clock.start()
        self.assertEqual(clock.go(101), 101)
        self.assertEqual(clock.state(0), (59, 2, 0, 0, 101))
        clock.press(0)
        self.assertEqual(clock.state(0), (60, 2, 1, 0, 0))
        clock.press(1)
        self.assertEqual(clock.state(1), (60, 3, 1, 0, 0))

    def test_what_is_given_in_main_goes_over_to_the_next_main_and_not_to_over(self):
        for later, left, periods in ((main(None, 40), 155, 0), (over(2, 30), 30, 2)):
            clock = Clock([main(1, 100), later])
            clock.give(0, 20)
            clock.start()
            make_moves(clock, 5)
            self.assertEqual(clock.state(0), (left, periods, 1, 1, 0))

    def test_what_is_given_ahead_of_over_puts_its_beginning_off(self):
        clock = Clock([main(None, 100), over(2, 30)])
        clock.give(0, 20)
        clock.start()
        clock.go(119)
        self.assertEqual(clock.state(0), (1, 0, 0, 0, 119))
        clock.go(1)
        self.assertEqual(clock.state(0), (30, 2, 0, 1, 120))
