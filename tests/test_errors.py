import unittest

from chessclock.errors import BadStages, BadTicks, ClockError, NotNow, Over

REFUSALS = (BadStages, BadTicks, NotNow, Over)


class ErrorsTest(unittest.TestCase):
    def test_clock_error_stands_under_value_error(self):
        self.assertEqual(ClockError.__bases__, (ValueError,))

    def test_each_refusal_is_below_clock_error_and_value_error(self):
        for refusal in REFUSALS:
            with self.subTest(refusal=refusal.__name__):
                self.assertIsNot(refusal, ClockError)
                self.assertTrue(issubclass(refusal, ClockError))
                self.assertTrue(issubclass(refusal, ValueError))

    def test_no_refusal_is_below_another(self):
        for one in REFUSALS:
            for other in REFUSALS:
                if one is not other:
                    with self.subTest(one=one.__name__, other=other.__name__):
                        self.assertFalse(issubclass(one, other))

    def test_the_refusals_are_four_classes(self):
        self.assertEqual(len(set(REFUSALS)), 4)

    def test_each_bears_its_name_and_can_be_taken_as_a_clock_error(self):
        names = [refusal.__name__ for refusal in REFUSALS]
        self.assertEqual(names, ["BadStages", "BadTicks", "NotNow", "Over"])
        for refusal in REFUSALS:
            with self.subTest(refusal=refusal.__name__):
                with self.assertRaises(ClockError):
                    raise refusal("words")


if __name__ == "__main__":
    unittest.main()
