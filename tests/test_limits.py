import unittest

from basetrees import limits


class LimitsTest(unittest.TestCase):
    def test_the_six_limits(self):
        self.assertEqual(limits.MOST_COPIES, 40)
        self.assertEqual(limits.MOST_TOLD, 12)
        self.assertEqual(limits.MOST_WEIGHT, 10 ** 12)
        self.assertEqual(limits.MOST_WALKED, 2000)
        self.assertEqual(limits.MOST_OFFERS, 8)
        self.assertEqual(limits.MOST_FREED, 8)

    def test_they_are_integers(self):
        for word in ("MOST_COPIES", "MOST_TOLD", "MOST_WEIGHT", "MOST_WALKED", "MOST_OFFERS", "MOST_FREED"):
            self.assertIs(type(getattr(limits, word)), int)


if __name__ == "__main__":
    unittest.main()
