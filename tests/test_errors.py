import unittest

from doughhours import errors

NAMES = (
    "BadTime", "BadName", "BadWant", "BadNumber", "BadCount", "TwiceNamed", "NoBread", "BeyondNight", "TooMany",
    "BadPlan", "NoBatch", "NoOven", "NoOrder", "Faulty", "TooCold", "TooWide", "NoPlan",
)


class TestErrors(unittest.TestCase):
    def test_dough_error_is_a_value_error(self):
        self.assertEqual(errors.DoughError.__bases__, (ValueError,))

    def test_each_refusal_stands_straight_under_dough_error(self):
        self.assertEqual(len(NAMES), 17)
        for name in NAMES:
            with self.subTest(name=name):
                refusal = getattr(errors, name)
                self.assertEqual(refusal.__name__, name)
                self.assertEqual(refusal.__bases__, (errors.DoughError,))

    def test_no_two_names_are_one_class(self):
        self.assertEqual(len({getattr(errors, name) for name in NAMES}), len(NAMES))

    def test_each_refusal_takes_words(self):
        for name in NAMES:
            with self.subTest(name=name):
                with self.assertRaises(errors.DoughError):
                    raise getattr(errors, name)("words")


if __name__ == "__main__":
    unittest.main()
