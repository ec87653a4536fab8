"""How a clock is made: of the stages of [1.1] alone, keeping nothing of the list ([0.1])."""

from helper import ClockCase, WAYS, main, make_moves, outcome, over, picture, running

from chessclock.clocks import Clock
from chessclock.errors import BadStages


class Taken(ClockCase):
    def test_stages_of_each_form_are_taken_and_the_list_is_as_it_was(self):
        for stages in (
            [main()],
            [over()],
            [main(1), over()],
            [main(), over()],
            [main(200, 1000000, "add", 1000000), main(None, 1, "back", 0), over(200, 1000000)],
            [main(1)] * 4 + [main()],
            [main(1)] * 4 + [over(1, 1)],
        ):
            before = list(stages)
            with self.subTest(stages=before):
                Clock(stages)
                self.assertEqual(stages, before)

    def test_each_way_is_taken(self):
        for way in WAYS:
            self.assertEqual(Clock([main(None, 70, way, 9)]).state(0), (70, 0, 0, 0, 0))


class Refused(ClockCase):
    def test_other_stages_are_refused_and_the_list_is_as_it_was(self):
        for stages in (
            [],
            [main(40)],
            [main(0), over()],
            [main(201), over()],
            [main(None, 0)],
            [main(None, 1000001)],
            [main(None, 9, "plain", -1)],
            [main(None, 9, "plain", 1000001)],
            [main(None, 9, "other", 0)],
            [over(0)],
            [over(201)],
            [over(3, 0)],
            [over(3, 1000001)],
            [over(), over()],
            [over(), main()],
            [main(), main()],
            [main(1)] * 5 + [over()],
            [("none", 3, 60)],
            [("main", None, 9, "plain")],
        ):
            before = list(stages)
            with self.subTest(stages=before):
                with self.assertRaises(BadStages) as caught:
                    Clock(stages)
                self.assertIs(type(caught.exception), BadStages)
                self.assertEqual(stages, before)


class NothingKept(ClockCase):
    # Through both stages, to a flag and past it.
    def play(self, clock):
        seen = [picture(clock)]
        clock.start()
        for ticks in (3, 4, 5, 6, 40, 1000, 1):
            seen.append(outcome(clock.go, ticks))
            seen.append(picture(clock))
            seen.append(outcome(clock.press, clock.game()[0]))
            seen.append(picture(clock))
        self.assertIsNotNone(clock.game()[2])
        return seen

    def test_the_list_may_be_changed_or_emptied_afterwards(self):
        wanted = [main(2, 50, "add", 4), over(2, 30)]
        undisturbed = self.play(Clock(list(wanted)))
        emptied = list(wanted)
        clock = Clock(emptied)
        emptied.clear()
        self.assertEqual(self.play(clock), undisturbed)
        changed = list(wanted)
        clock = Clock(changed)
        changed[0] = main(1, 7, "wait", 2)
        changed[1] = over(1, 1)
        changed.append(over())
        self.assertEqual(self.play(clock), undisturbed)

    def test_no_deed_changes_the_list(self):
        stages = [main(1, 50, "back", 4), main(None, 9, "add", 2), over(2, 30)]
        before = list(stages)
        self.play(Clock(stages))
        self.assertEqual(stages, before)

    def test_two_clocks_of_one_list_go_by_themselves(self):
        stages = [main(1, 50), over(2, 30)]
        one, other = Clock(stages), Clock(stages)
        one.start()
        make_moves(one, 10, 20, 5)
        self.assertEqual(other.state(0), (50, 0, 0, 0, 0))
        self.assertEqual(other.state(1), (50, 0, 0, 0, 0))
        self.assertEqual(other.game(), (0, False, None, 0))

    def test_what_was_told_stays_as_it_was_told(self):
        clock = running(main(None, 50))
        clock.go(7)
        state, game = clock.state(0), clock.game()
        make_moves(clock, 5, 5)
        clock.go(3)
        self.assertEqual(state, (43, 0, 0, 0, 7))
        self.assertEqual(game, (0, True, None, 7))
