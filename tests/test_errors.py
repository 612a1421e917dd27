import unittest

from skybars import errors


class ErrorClasses(unittest.TestCase):
    def test_bar_error_is_a_value_error(self):
        self.assertEqual(errors.BarError.__bases__, (ValueError,))

    def test_each_error_is_straight_under_bar_error(self):
        for name in ["BadBars", "NoBar", "BadPlace", "BadTree", "BadLinks"]:
            with self.subTest(name):
                made = getattr(errors, name)
                self.assertEqual(made.__name__, name)
                self.assertEqual(made.__bases__, (errors.BarError,))


if __name__ == "__main__":
    unittest.main()
