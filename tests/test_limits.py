import unittest

from placeworths import limits


class Limits(unittest.TestCase):
    def test_each_limit_is_as_listed(self):
        listed = {
            "MOST_PAIRS": 64, "MOST_DRAWS": 6, "MOST_PLACES": 24, "MOST_ARROWS": 8, "MOST_MOVES": 60,
            "MOST_FILLINGS": 2000, "MOST_ASKED": 200,
        }
        for name, value in listed.items():
            self.assertEqual(getattr(limits, name), value, name)
            self.assertIs(type(getattr(limits, name)), int, name)


if __name__ == "__main__":
    unittest.main()
