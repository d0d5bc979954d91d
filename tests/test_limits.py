import unittest

from alwaysagree import limits


class TestLimits(unittest.TestCase):
    def test_each_limit_has_its_value(self):
        values = {
            "MOST_MINDS": 6,
            "MOST_WAYS": 6,
            "MOST_WEIGHT": 1000000000,
            "MOST_DAYS": 12,
            "MOST_WORDS": 1300,
            "MOST_OFFERS": 6,
            "MOST_DOUBTS": 6,
        }
        for name, value in values.items():
            with self.subTest(name):
                self.assertEqual(getattr(limits, name), value)
                self.assertIs(getattr(limits, name).__class__, int)


if __name__ == "__main__":
    unittest.main()
