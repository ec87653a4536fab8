"""[2.2] The next stage begins when so many moves are made in a main stage."""

from helper import ClockCase, main, make_moves, make_moves_of_both, over, running


class MainBehindMain(ClockCase):
    def test_the_move_at_which_it_begins_and_those_beside_it(self):
        clock = running(main(3, 100), main(None, 40))
        make_moves_of_both(clock, 10, 10)
        self.assertEqual(clock.state(0), (80, 0, 2, 0, 0))
        clock.go(10)
        self.assertEqual(clock.state(0), (70, 0, 2, 0, 10))
        clock.press(0)
        self.assertEqual(clock.state(0), (70 + 40, 0, 3, 1, 0))
        self.assertEqual(clock.state(1), (80, 0, 2, 0, 0))
        make_moves(clock, 11)
        self.assertEqual(clock.state(1), (69 + 40, 0, 3, 1, 0))
        make_moves(clock, 10)
        self.assertEqual(clock.state(0), (100, 0, 4, 1, 0))

    def test_the_last_move_gets_its_extra_by_the_way_of_the_stage_that_it_was_made_in(self):
        for way, left in (("plain", 92), ("add", 97), ("back", 97), ("wait", 97)):
            clock = running(main(1, 100, way, 5), main(None, 40, "add", 1000))
            make_moves(clock, 8)
            self.assertEqual(clock.state(0), (left + 40, 0, 1, 1, 0))

    def test_the_way_of_the_next_stage_holds_from_its_first_move_on(self):
        for way, left in (("plain", 122), ("add", 127), ("back", 127), ("wait", 127)):
            clock = running(main(1, 100, "plain", 1000), main(None, 40, way, 5))
            make_moves_of_both(clock, 10, 8)
            for who in (0, 1):
                self.assertEqual(clock.state(who), (left, 0, 2, 1, 0))

    def test_one_tick_left_is_enough(self):
        clock = running(main(1, 100), main(None, 40))
        make_moves(clock, 99)
        self.assertEqual(clock.state(0), (41, 0, 1, 1, 0))

    def test_two_hundred_moves(self):
        clock = running(main(200, 1000), over(2, 30))
        make_moves_of_both(clock, *([1] * 199))
        self.assertEqual(clock.state(0), (801, 0, 199, 0, 0))
        make_moves_of_both(clock, 1)
        for who in (0, 1):
            self.assertEqual(clock.state(who), (30, 2, 200, 1, 0))

    def test_moves_none_never_ends_by_moves(self):
        clock = running(main(None, 1000), over(2, 30))
        make_moves_of_both(clock, *([1] * 300))
        for who in (0, 1):
            self.assertEqual(clock.state(who), (700, 0, 300, 0, 0))


class OverBehindMain(ClockCase):
    def test_the_move_at_which_it_begins_and_those_beside_it(self):
        clock = running(main(3, 100), over(4, 30))
        make_moves_of_both(clock, 10, 10)
        self.assertEqual(clock.state(0), (80, 0, 2, 0, 0))
        clock.go(10)
        self.assertEqual(clock.state(0), (70, 0, 2, 0, 10))
        clock.press(0)
        self.assertEqual(clock.state(0), (30, 4, 3, 1, 0))
        self.assertEqual(clock.state(1), (80, 0, 2, 0, 0))
        make_moves(clock, 11)
        self.assertEqual(clock.state(1), (30, 4, 3, 1, 0))
        make_moves(clock, 10)
        self.assertEqual(clock.state(0), (30, 4, 4, 1, 0))

    def test_its_ticks_stand_in_the_place_of_what_is_left_whatever_that_is(self):
        for way in ("plain", "add", "back", "wait"):
            for ticks in (0, 1, 50, 99):
                clock = running(main(1, 100, way, 5), over(2, 30))
                make_moves(clock, ticks)
                self.assertEqual(clock.state(0), (30, 2, 1, 1, 0))

    def test_fewer_are_left_than_a_period_has(self):
        clock = running(main(1, 100), over(2, 1000))
        make_moves(clock, 99)
        self.assertEqual(clock.state(0), (1000, 2, 1, 1, 0))


class OneBehindAnother(ClockCase):
    def test_one_move_alone_in_each_stage(self):
        clock = running(main(1, 100), main(1, 20), main(1, 3), main(None, 1000))
        seen = []
        for _ in range(4):
            make_moves_of_both(clock, 1)
            self.assertEqual(clock.state(0), clock.state(1))
            seen.append(clock.state(0))
        self.assertEqual(seen, [(119, 0, 1, 1, 0), (121, 0, 2, 2, 0), (1120, 0, 3, 3, 0), (1119, 0, 4, 3, 0)])

    def test_five_stages_to_moves_none(self):
        clock = running(
            main(2, 100), main(1, 50, "add", 7), main(3, 20, "back", 4), main(2, 10, "wait", 2), main(None, 5)
        )
        seen = []
        for ticks in (3, 3, 6, 5, 4, 3, 2, 4, 1):
            make_moves_of_both(clock, ticks)
            self.assertEqual(clock.state(0), clock.state(1))
            seen.append(clock.state(0))
        self.assertEqual(seen, [
            (97, 0, 1, 0, 0), (144, 0, 2, 1, 0), (165, 0, 3, 2, 0), (164, 0, 4, 2, 0), (164, 0, 5, 2, 0),
            (174, 0, 6, 3, 0), (174, 0, 7, 3, 0), (177, 0, 8, 4, 0), (176, 0, 9, 4, 0),
        ])

    def test_five_stages_to_over(self):
        clock = running(main(1, 100), main(2, 50), main(1, 20), main(None, 10), over(3, 15))
        make_moves_of_both(clock, 40, 40, 40, 40)
        for who in (0, 1):
            self.assertEqual(clock.state(who), (20, 0, 4, 3, 0))
        clock.go(19)
        self.assertEqual(clock.state(0), (1, 0, 4, 3, 19))
        clock.go(1)
        self.assertEqual(clock.state(0), (15, 3, 4, 4, 20))
        make_moves(clock, 0, 20)
        for who in (0, 1):
            self.assertEqual(clock.state(who), (15, 3, 5, 4, 0))

    def test_the_moves_of_each_stage_are_counted_from_its_beginning(self):
        clock = running(main(2, 100), main(2, 100), main(2, 100), over(2, 30))
        numbers = []
        for _ in range(7):
            make_moves_of_both(clock, 1)
            numbers.append(clock.state(1)[3])
        self.assertEqual(numbers, [0, 1, 1, 2, 2, 3, 3])

    def test_one_side_may_be_a_stage_ahead(self):
        clock = running(main(2, 100), main(None, 40, "add", 9))
        make_moves(clock, 10, 10, 10)
        self.assertEqual(clock.state(0), (120, 0, 2, 1, 0))
        self.assertEqual(clock.state(1), (90, 0, 1, 0, 0))
