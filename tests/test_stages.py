import unittest

from chessclock.errors import BadStages
from chessclock.stages import read_stages

COUNTED = ("main", 40, 5400, "plain", 0)
ENDLESS = ("main", None, 900, "add", 30)
OVER = ("over", 3, 60)


def main(moves=None, ticks=900, way="plain", extra=0):
    return ("main", moves, ticks, way, extra)


class StagesCase(unittest.TestCase):
    # Whether it is taken or refused, the list must come out as it went in ([0.1]).
    def assert_taken(self, stages):
        before = list(stages)
        with self.subTest(stages=before):
            self.assertEqual(read_stages(stages), tuple(before))
            self.assertEqual(stages, before)

    def assert_refused(self, stages):
        before = list(stages)
        with self.subTest(stages=before):
            with self.assertRaises(BadStages):
                read_stages(stages)
            self.assertEqual(stages, before)


class GoodStages(StagesCase):
    def test_one_main_without_end_by_each_way(self):
        for way in ("plain", "add", "back", "wait"):
            self.assert_taken([main(way=way, extra=5)])

    def test_one_main_with_moves_by_each_way_ahead_of_another(self):
        for way in ("plain", "add", "back", "wait"):
            self.assert_taken([main(moves=40, way=way, extra=5), ENDLESS])

    def test_each_way_goes_with_an_extra_of_nothing(self):
        for way in ("plain", "add", "back", "wait"):
            self.assert_taken([main(way=way, extra=0)])

    def test_over_alone(self):
        self.assert_taken([OVER])

    def test_over_last_behind_moves(self):
        self.assert_taken([COUNTED, OVER])

    def test_over_behind_moves_none(self):
        self.assert_taken([ENDLESS, OVER])
        self.assert_taken([COUNTED, ENDLESS, OVER])

    def test_one_to_five_stages(self):
        for count in range(5):
            self.assert_taken([COUNTED] * count + [ENDLESS])
            self.assert_taken([COUNTED] * count + [OVER])
        self.assert_taken([COUNTED] * 3 + [ENDLESS, OVER])

    def test_stages_may_differ_from_one_another(self):
        self.assert_taken([main(40, 7200, "add", 30), main(20, 3600, "wait", 5), main(None, 900, "back", 2)])


class Bounds(StagesCase):
    def test_moves(self):
        for moves in (1, 2, 199, 200):
            self.assert_taken([main(moves=moves), ENDLESS])
        for moves in (0, 201, -1, -200, 10 ** 15 - 1, 1 - 10 ** 15):
            self.assert_refused([main(moves=moves), ENDLESS])

    def test_ticks_of_main(self):
        for ticks in (1, 2, 999999, 1000000):
            self.assert_taken([main(ticks=ticks)])
            self.assert_taken([main(moves=40, ticks=ticks), ENDLESS])
        for ticks in (0, 1000001, -1, 10 ** 15 - 1, 1 - 10 ** 15):
            self.assert_refused([main(ticks=ticks)])
            self.assert_refused([main(moves=40, ticks=ticks), ENDLESS])

    def test_extra(self):
        for way in ("plain", "add", "back", "wait"):
            for extra in (0, 1, 999999, 1000000):
                self.assert_taken([main(way=way, extra=extra)])
            for extra in (-1, 1000001, 10 ** 15 - 1, 1 - 10 ** 15):
                self.assert_refused([main(way=way, extra=extra)])

    def test_periods(self):
        for periods in (1, 2, 199, 200):
            self.assert_taken([("over", periods, 60)])
        for periods in (0, 201, -1, 10 ** 15 - 1, 1 - 10 ** 15):
            self.assert_refused([("over", periods, 60)])

    def test_ticks_of_over(self):
        for ticks in (1, 2, 999999, 1000000):
            self.assert_taken([("over", 3, ticks)])
        for ticks in (0, 1000001, -1, 10 ** 15 - 1, 1 - 10 ** 15):
            self.assert_refused([("over", 3, ticks)])

    def test_each_stage_is_held_to_the_bounds_not_the_first_alone(self):
        bad = main(moves=40, ticks=0)
        self.assert_refused([bad, COUNTED, ENDLESS])
        self.assert_refused([COUNTED, bad, ENDLESS])
        self.assert_refused([COUNTED, COUNTED, main(ticks=0)])
        self.assert_refused([COUNTED, ENDLESS, ("over", 0, 60)])


class WrongStage(StagesCase):
    def test_a_first_word_that_is_none_of_those_told(self):
        for word in ("Main", "MAIN", "main ", "", "mai", "plain", "add", "stage", "over"):
            self.assert_refused([(word, None, 900, "plain", 0)])
        for word in ("Over", "OVER", " over", "", "ove", "wait", "periods", "main"):
            self.assert_refused([(word, 3, 60)])

    def test_a_wrong_first_word_ahead_of_a_good_stage(self):
        for word in ("Main", "", "plain", "stage", None, 0):
            self.assert_refused([(word, 40, 900, "plain", 0), ENDLESS])
            self.assert_refused([(word, 40, 900, "plain", 0), OVER])
        for word in ("Over", "", "wait", "periods", None, 0):
            self.assert_refused([(word, 3, 60), ENDLESS])
            self.assert_refused([(word, 3, 60), OVER])

    def test_a_first_thing_that_is_no_word(self):
        for thing in (0, 1, None):
            self.assert_refused([(thing, None, 900, "plain", 0)])
            self.assert_refused([(thing, 3, 60)])

    def test_a_way_that_is_none_of_those_told(self):
        for way in ("Plain", "ADD", "back ", "", "wai", "ad", "main", "over", "delay", None, 0, 1):
            self.assert_refused([main(way=way)])
            self.assert_refused([main(moves=40, way=way), ENDLESS])

    def test_too_few_or_too_many_things_in_main(self):
        whole = ("main", None, 900, "plain", 0)
        for count in range(5):
            self.assert_refused([whole[:count]])
        self.assert_refused([whole + (0,)])
        self.assert_refused([whole + (None, None)])

    def test_too_few_or_too_many_things_in_over(self):
        for count in range(3):
            self.assert_refused([OVER[:count]])
        self.assert_refused([OVER + (0,)])
        self.assert_refused([OVER + ("plain", 0)])

    def test_none_where_a_number_must_stand(self):
        self.assert_refused([main(ticks=None)])
        self.assert_refused([main(extra=None)])
        self.assert_refused([("over", None, 60)])
        self.assert_refused([("over", 3, None)])

    def test_a_word_where_a_number_must_stand(self):
        self.assert_refused([main(moves="40"), ENDLESS])
        self.assert_refused([main(ticks="900")])
        self.assert_refused([main(extra="0")])
        self.assert_refused([("over", "3", 60)])
        self.assert_refused([("over", 3, "60")])

    def test_a_truth_is_no_whole_number(self):
        self.assert_refused([main(moves=True), ENDLESS])
        self.assert_refused([main(ticks=True)])
        self.assert_refused([main(extra=False)])
        self.assert_refused([("over", True, 60)])
        self.assert_refused([("over", 3, True)])

    def test_stages_are_a_list_of_tuples(self):
        self.assert_refused([list(ENDLESS)])
        self.assert_refused([list(OVER)])
        self.assert_refused(["over"])
        self.assert_refused([None])
        with self.assertRaises(BadStages):
            read_stages((ENDLESS,))


class WrongOrder(StagesCase):
    def test_no_stage(self):
        self.assert_refused([])

    def test_five_are_taken_and_six_are_not(self):
        for last in (ENDLESS, OVER):
            self.assert_taken([COUNTED] * 4 + [last])
            self.assert_refused([COUNTED] * 5 + [last])
            self.assert_refused([COUNTED] * 6 + [last])
        self.assert_refused([COUNTED] * 4 + [ENDLESS, OVER])

    def test_the_last_stage_has_moves(self):
        for count in range(1, 6):
            self.assert_refused([COUNTED] * count)
        self.assert_refused([main(moves=1)])
        self.assert_refused([main(moves=200)])

    def test_over_ahead_of_another(self):
        for later in (COUNTED, ENDLESS, OVER):
            self.assert_refused([OVER, later])
            self.assert_refused([COUNTED, OVER, later])
            self.assert_refused([ENDLESS, OVER, later])
        self.assert_refused([OVER, COUNTED, ENDLESS])
        self.assert_refused([OVER, COUNTED, OVER])

    def test_main_behind_moves_none(self):
        self.assert_refused([ENDLESS, ENDLESS])
        self.assert_refused([ENDLESS, COUNTED])
        self.assert_refused([ENDLESS, COUNTED, ENDLESS])
        self.assert_refused([ENDLESS, COUNTED, OVER])
        self.assert_refused([ENDLESS, ENDLESS, OVER])
        self.assert_refused([COUNTED, ENDLESS, ENDLESS])
        self.assert_refused([COUNTED, ENDLESS, COUNTED, OVER])


class NothingKept(unittest.TestCase):
    def test_a_later_change_of_the_list_does_not_reach_what_was_read(self):
        stages = [COUNTED, OVER]
        read = read_stages(stages)
        stages[0] = ENDLESS
        stages.append(OVER)
        self.assertEqual(read, (COUNTED, OVER))

    def test_a_refused_list_can_be_mended_and_read(self):
        stages = [COUNTED]
        with self.assertRaises(BadStages):
            read_stages(stages)
        stages.append(ENDLESS)
        self.assertEqual(read_stages(stages), (COUNTED, ENDLESS))


if __name__ == "__main__":
    unittest.main()
