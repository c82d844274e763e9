"""The constants that the document names, with its numbers."""

import unittest

from sortedshelves import bounds

NUMBERS = {
    "MAX_LETTERS": 3, "MAX_ROWS": 400, "MAX_STATES": 6, "MAX_LENGTH": 400, "MAX_TOLD": 60, "MAX_WORTH": 99,
    "MAX_COUNT": 9, "MAX_MOST": 200, "MAX_CUT": 30, "MAX_PASS": 4, "MAX_PAIRS": 4, "MAX_PIECE": 2, "MAX_LINE": 3,
    "MAX_STANDS": 60, "MAX_LEADERS": 12, "MAX_ASKED": 20, "MAX_DEPTH": 4, "MAX_ROOM": 10 ** 6, "MAX_WORDS": 60,
    "MAX_LONG": 200, "MAX_EDITS": 80, "BATCH": 20, "MAX_ENTRIES": 120,
}


class Bounds(unittest.TestCase):
    def test_numbers(self):
        for name, number in NUMBERS.items():
            self.assertEqual(getattr(bounds, name), number, name)
            self.assertIs(getattr(bounds, name).__class__, int, name)


if __name__ == "__main__":
    unittest.main()
