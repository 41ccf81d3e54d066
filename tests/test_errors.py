import unittest

from sleepwalk import errors
from tests.support import WORD_CLASSES


class ErrorsTest(unittest.TestCase):
    def test_the_refusal_stands_straight_under_value_error(self):
        self.assertEqual(errors.SleepError.__bases__, (ValueError,))

    def test_the_eight_classes_stand_straight_under_the_refusal(self):
        self.assertEqual(len(set(WORD_CLASSES)), 8)
        for one in WORD_CLASSES:
            self.assertEqual(one.__bases__, (errors.SleepError,))
            self.assertEqual(one.__module__, "sleepwalk.errors")

    def test_each_class_takes_a_text(self):
        for one in WORD_CLASSES:
            self.assertEqual(str(one("why")), "why")


if __name__ == "__main__":
    unittest.main()
