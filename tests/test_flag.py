"""[2.3] The flag, over in the midst of a move, and the periods of over."""

from helper import ClockCase, MOST_WHOLE, WAYS, main, make_moves, make_moves_of_both, over, picture, running


class FlagInMain(ClockCase):
    def assert_falls_at(self, tick, *stages):
        with self.subTest(stages=stages):
            clock = running(*stages)
            self.assertEqual(clock.go(tick - 1), tick - 1)
            self.assertEqual(clock.game(), (0, True, None, tick - 1))
            self.assertEqual(clock.state(0), (1, 0, 0, 0, tick - 1))
            self.assertEqual(clock.go(1), 1)
            self.assertEqual(clock.game(), (0, False, 0, tick))
            self.assertEqual(clock.state(0), (0, 0, 0, 0, tick))
            at_once = running(*stages)
            self.assertEqual(at_once.go(tick + 5), tick)
            self.assertEqual(picture(at_once), picture(clock))

    def test_it_falls_at_just_its_tick_and_not_one_ahead(self):
        for way in ("plain", "add", "back"):
            for ticks in (1, 2, 100, 1000000):
                self.assert_falls_at(ticks, main(None, ticks, way, 7))

    def test_by_wait_too(self):
        for extra in (0, 1, 7, 100, 101, 1000000):
            self.assert_falls_at(100 + extra, main(None, 100, "wait", extra))
        self.assert_falls_at(8, main(None, 1, "wait", 7))

    def test_a_stage_with_moves_does_not_go_on_to_the_next(self):
        for way in WAYS:
            extra = 7 if way == "wait" else 0
            self.assert_falls_at(100 + extra, main(2, 100, way, extra), main(None, 50))
            self.assert_falls_at(100 + extra, main(2, 100, way, extra), over(2, 30))

    def test_of_the_other_side(self):
        clock = running(main(None, 100))
        make_moves(clock, 30)
        self.assertEqual(clock.go(100), 100)
        self.assertEqual(clock.game(), (1, False, 1, 130))
        self.assertEqual(clock.state(0), (70, 0, 1, 0, 0))
        self.assertEqual(clock.state(1), (0, 0, 0, 0, 100))

    def test_in_a_later_move_and_a_later_stage(self):
        clock = running(main(1, 100, "add", 5), main(None, 40, "wait", 3))
        make_moves_of_both(clock, 20, 10)
        self.assertEqual(clock.state(0), (118, 0, 2, 1, 0))
        self.assertEqual(clock.go(120), 120)
        self.assertEqual(clock.state(0), (1, 0, 2, 1, 120))
        self.assertEqual(clock.go(9), 1)
        self.assertEqual(clock.state(0), (0, 0, 2, 1, 121))
        self.assertEqual(clock.game(), (0, False, 0, 181))


class OverInTheMidst(ClockCase):
    def test_it_begins_at_the_tick_at_which_nothing_is_left(self):
        for way in WAYS:
            extra = 7 if way == "wait" else 0
            clock = running(main(None, 100, way, extra), over(3, 30))
            self.assertEqual(clock.go(99 + extra), 99 + extra)
            self.assertEqual(clock.state(0), (1, 0, 0, 0, 99 + extra))
            self.assertEqual(clock.go(1), 1)
            self.assertEqual(clock.state(0), (30, 3, 0, 1, 100 + extra))
            self.assertEqual(clock.game(), (0, True, None, 100 + extra))

    def test_all_ticks_of_it_count_whatever_the_way_was_ahead_of_it(self):
        for way in WAYS:
            extra = 7 if way == "wait" else 0
            clock = running(main(None, 100, way, extra), over(3, 30))
            clock.go(100 + extra)
            clock.go(4)
            self.assertEqual(clock.state(0), (26, 3, 0, 1, 104 + extra))

    def test_no_extra_for_a_move_that_is_made_in_it(self):
        for way in WAYS:
            clock = running(main(None, 10, way, 5), over(3, 30))
            make_moves(clock, 20)
            self.assertEqual(clock.state(0), (30, 3, 1, 1, 0))
            clock.press(1)
            make_moves(clock, 29)
            self.assertEqual(clock.state(0), (30, 3, 2, 1, 0))

    def test_one_go_passes_out_of_main_and_through_the_periods_to_the_last(self):
        for ticks, left, periods in (
            (129, 1, 3), (130, 30, 2), (131, 29, 2), (159, 1, 2), (160, 30, 1), (175, 15, 1), (189, 1, 1),
        ):
            clock = running(main(None, 100), over(3, 30))
            self.assertEqual(clock.go(ticks), ticks)
            self.assertEqual(clock.state(0), (left, periods, 0, 1, ticks))
            self.assertEqual(clock.game(), (0, True, None, ticks))

    def test_one_go_to_the_flag(self):
        for ticks in (190, 191, 1000, MOST_WHOLE):
            clock = running(main(None, 100), over(3, 30))
            self.assertEqual(clock.go(ticks), 190)
            self.assertEqual(clock.state(0), (0, 0, 0, 1, 190))
            self.assertEqual(clock.game(), (0, False, 0, 190))

    def test_behind_stages_with_moves(self):
        clock = running(main(1, 10), main(None, 20), over(2, 5))
        make_moves_of_both(clock, 4)
        self.assertEqual(clock.go(26), 26)
        self.assertEqual(clock.state(0), (5, 2, 1, 2, 26))
        self.assertEqual(clock.go(100), 10)
        self.assertEqual(clock.state(0), (0, 0, 1, 2, 36))

    def test_without_over_behind_the_flag_falls(self):
        clock = running(main(1, 10), main(None, 20))
        make_moves_of_both(clock, 4)
        self.assertEqual(clock.go(100), 26)
        self.assertEqual(clock.state(0), (0, 0, 1, 1, 26))
        self.assertEqual(clock.game(), (0, False, 0, 34))


class Periods(ClockCase):
    def test_one_after_another(self):
        clock = running(over(3, 2))
        seen = [clock.state(0)[:2]]
        for _ in range(6):
            clock.go(1)
            seen.append(clock.state(0)[:2])
        self.assertEqual(seen, [(2, 3), (1, 3), (2, 2), (1, 2), (2, 1), (1, 1), (0, 0)])
        self.assertEqual(clock.game(), (0, False, 0, 6))

    def test_one_period_alone(self):
        clock = running(over(1, 30))
        self.assertEqual(clock.go(29), 29)
        self.assertEqual(clock.state(0), (1, 1, 0, 0, 29))
        self.assertEqual(clock.go(7), 1)
        self.assertEqual(clock.state(0), (0, 0, 0, 0, 30))
        self.assertEqual(clock.game(), (0, False, 0, 30))

    def test_periods_of_one_tick(self):
        clock = running(over(4, 1))
        self.assertEqual(clock.go(3), 3)
        self.assertEqual(clock.state(0), (1, 1, 0, 0, 3))
        self.assertEqual(clock.go(3), 1)
        self.assertEqual(clock.game(), (0, False, 0, 4))

    def test_the_most_periods_of_the_most_ticks(self):
        clock = running(over(200, 1000000))
        self.assertEqual(clock.go(199999999), 199999999)
        self.assertEqual(clock.state(0), (1, 1, 0, 0, 199999999))
        self.assertEqual(clock.go(MOST_WHOLE), 1)
        self.assertEqual(clock.state(0), (0, 0, 0, 0, 200000000))

    def test_a_move_made_in_the_first_period(self):
        for ticks in (0, 1, 29):
            clock = running(over(3, 30))
            clock.go(ticks)
            self.assertEqual(clock.state(0), (30 - ticks, 3, 0, 0, ticks))
            clock.press(0)
            self.assertEqual(clock.state(0), (30, 3, 1, 0, 0))

    def test_a_move_made_in_a_later_period(self):
        for ticks, left, periods in ((30, 30, 2), (31, 29, 2), (59, 1, 2), (60, 30, 1), (89, 1, 1)):
            clock = running(over(3, 30))
            clock.go(ticks)
            self.assertEqual(clock.state(0), (left, periods, 0, 0, ticks))
            clock.press(0)
            self.assertEqual(clock.state(0), (30, periods, 1, 0, 0))

    def test_periods_that_are_gone_stay_gone(self):
        clock = running(over(3, 30))
        make_moves_of_both(clock, 35, 29, 30)
        for who in (0, 1):
            self.assertEqual(clock.state(who), (30, 1, 3, 0, 0))
        self.assertEqual(clock.go(30), 30)
        self.assertEqual(clock.game()[2], 0)

    def test_the_periods_of_each_side_are_its_own(self):
        clock = running(over(3, 30))
        make_moves(clock, 65, 10)
        self.assertEqual(clock.state(0), (30, 1, 1, 0, 0))
        self.assertEqual(clock.state(1), (30, 3, 1, 0, 0))
        make_moves(clock, 0)
        self.assertEqual(clock.go(500), 90)
        self.assertEqual(clock.game(), (1, False, 1, 165))
        self.assertEqual(clock.state(0), (30, 1, 2, 0, 0))

    def test_no_number_of_moves_ends_over(self):
        clock = running(over(2, 3))
        make_moves_of_both(clock, *([2] * 300))
        for who in (0, 1):
            self.assertEqual(clock.state(who), (3, 2, 300, 0, 0))
