"""[2.1] A side's ticks at first, and how they go in a main stage by each of the four ways."""

from helper import ClockCase, WAYS, main, make_moves, make_moves_of_both, over, running

from chessclock.clocks import Clock


class AtFirst(ClockCase):
    def test_a_side_has_the_ticks_of_the_first_stage(self):
        for way in WAYS:
            for ticks in (1, 2, 900, 1000000):
                clock = Clock([main(3, ticks, way, 7), main(None, 55)])
                for who in (0, 1):
                    self.assertEqual(clock.state(who), (ticks, 0, 0, 0, 0))

    def test_over_as_the_first_stage(self):
        for periods, ticks in ((1, 1), (3, 60), (200, 1000000)):
            clock = Clock([over(periods, ticks)])
            for who in (0, 1):
                self.assertEqual(clock.state(who), (ticks, periods, 0, 0, 0))


class OneMove(ClockCase):
    # What is left just ahead of the press and behind it, of 100 ticks, after a move of so many.
    def assert_move(self, way, extra, ticks, ahead, behind):
        with self.subTest(way=way, extra=extra, ticks=ticks):
            clock = running(main(None, 100, way, extra))
            self.assertEqual(clock.go(ticks), ticks)
            self.assertEqual(clock.state(0), (ahead, 0, 0, 0, ticks))
            clock.press(0)
            self.assertEqual(clock.state(0), (behind, 0, 1, 0, 0))
            self.assertEqual(clock.state(1), (100, 0, 0, 0, 0))

    def test_plain_whatever_the_extra(self):
        for extra in (0, 9, 10, 11, 1000000):
            self.assert_move("plain", extra, 10, 90, 90)
            self.assert_move("plain", extra, 0, 100, 100)

    def test_add(self):
        self.assert_move("add", 0, 10, 90, 90)
        self.assert_move("add", 9, 10, 90, 99)
        self.assert_move("add", 10, 10, 90, 100)
        self.assert_move("add", 11, 10, 90, 101)
        self.assert_move("add", 1000000, 10, 90, 1000090)
        self.assert_move("add", 7, 0, 100, 107)

    def test_back(self):
        self.assert_move("back", 0, 10, 90, 90)
        self.assert_move("back", 9, 10, 90, 99)
        self.assert_move("back", 10, 10, 90, 100)
        self.assert_move("back", 11, 10, 90, 100)
        self.assert_move("back", 1000000, 10, 90, 100)
        self.assert_move("back", 7, 0, 100, 100)

    def test_wait(self):
        self.assert_move("wait", 0, 10, 90, 90)
        self.assert_move("wait", 1, 10, 91, 91)
        self.assert_move("wait", 9, 10, 99, 99)
        self.assert_move("wait", 10, 10, 100, 100)
        self.assert_move("wait", 11, 10, 100, 100)
        self.assert_move("wait", 1000000, 10, 100, 100)
        self.assert_move("wait", 7, 0, 100, 100)


class ManyMoves(ClockCase):
    def left_after(self, way, extra, lengths):
        clock = running(main(None, 1000, way, extra))
        make_moves_of_both(clock, *lengths)
        self.assertEqual(clock.state(0)[0], clock.state(1)[0])
        return clock.state(0)[0]

    def test_each_move_is_reckoned_by_itself(self):
        lengths = (0, 3, 4, 5, 6, 20, 1)
        self.assertEqual(self.left_after("plain", 5, lengths), 1000 - 39)
        self.assertEqual(self.left_after("add", 5, lengths), 1000 - 39 + 7 * 5)
        self.assertEqual(self.left_after("back", 5, lengths), 1000 - 39 + 0 + 3 + 4 + 5 + 5 + 5 + 1)
        self.assertEqual(self.left_after("wait", 5, lengths), 1000 - 1 - 15)

    def test_by_wait_the_ticks_of_a_move_are_counted_over_several_goes(self):
        clock = running(main(None, 100, "wait", 5))
        left = []
        for ticks in (3, 2, 1, 4):
            clock.go(ticks)
            left.append(clock.state(0)[0])
        self.assertEqual(left, [100, 100, 99, 95])

    def test_by_back_the_ticks_of_a_move_are_counted_over_several_goes(self):
        for extra, left in ((9, 99), (10, 100), (11, 100)):
            clock = running(main(None, 100, "back", extra))
            for ticks in (3, 3, 4):
                clock.go(ticks)
            clock.press(0)
            self.assertEqual(clock.state(0)[0], left)

    def test_a_stop_in_the_midst_of_a_move_does_not_begin_it_again(self):
        for way, left in (("plain", 92), ("add", 97), ("back", 97), ("wait", 97)):
            clock = running(main(None, 100, way, 5))
            clock.go(4)
            clock.stop()
            clock.go(50)
            clock.start()
            clock.go(4)
            clock.press(0)
            self.assertEqual(clock.state(0), (left, 0, 1, 0, 0))

    def test_what_is_given_in_the_midst_of_a_move_is_no_tick_of_it(self):
        for way, left in (("plain", 112), ("add", 117), ("back", 116), ("wait", 116)):
            clock = running(main(None, 100, way, 5))
            clock.go(4)
            clock.stop()
            clock.give(0, 16)
            clock.start()
            clock.press(0)
            self.assertEqual(clock.state(0), (left, 0, 1, 0, 0))


class EachSideByItself(ClockCase):
    def test_the_ticks_of_one_leave_the_other_alone(self):
        for way in WAYS:
            clock = running(main(None, 100, way, 0))
            make_moves(clock, 7)
            self.assertEqual(clock.state(1), (100, 0, 0, 0, 0))
            clock.go(30)
            self.assertEqual(clock.state(0), (93, 0, 1, 0, 0))
            self.assertEqual(clock.state(1), (70, 0, 0, 0, 30))
            clock.press(1)
            clock.go(2)
            self.assertEqual(clock.state(0), (91, 0, 1, 0, 2))
            self.assertEqual(clock.state(1), (70, 0, 1, 0, 0))

    def test_the_extra_of_a_move_goes_to_the_side_that_made_it(self):
        for way, left in (("add", (98, 85)), ("back", (98, 85)), ("wait", (98, 85))):
            clock = running(main(None, 100, way, 5))
            make_moves(clock, 7, 20)
            self.assertEqual((clock.state(0)[0], clock.state(1)[0]), left)

    def test_nothing_goes_while_the_clock_stands_still(self):
        for way in WAYS:
            clock = Clock([main(None, 100, way, 5)])
            clock.go(50)
            self.assertEqual(clock.state(0), (100, 0, 0, 0, 0))
            self.assertEqual(clock.state(1), (100, 0, 0, 0, 0))
