"""The bounds: each number that the document tells."""

import unittest

from savedback import bounds

NUMBERS = {
    "MAX_FIELDS": 4,
    "MAX_SIZE": 6,
    "MAX_WORLDS": 24,
    "MAX_KEYS": 3,
    "MAX_DEEP": 3,
    "MAX_NOTS": 2,
    "MAX_PLACES": 16,
    "MAX_NEST": 3,
    "MAX_ROW": 400,
    "MAX_DEPTH": 60,
    "MAX_COST": 99,
    "MAX_EDITS": 60,
    "BATCH": 20,
}


class Bounds(unittest.TestCase):
    def test_each_number(self):
        for name, number in NUMBERS.items():
            with self.subTest(name=name):
                self.assertEqual(getattr(bounds, name), number)
                self.assertIs(type(getattr(bounds, name)), int)

    def test_there_are_no_others(self):
        found = [name for name in vars(bounds) if not name.startswith("_")]
        self.assertEqual(sorted(found), sorted(NUMBERS))


if __name__ == "__main__":
    unittest.main()
