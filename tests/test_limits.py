import unittest

from sortcuts import limits

VALUES = {
    "MOST_COLUMNS": 5,
    "MOST_KEYS": 4,
    "MOST_RECORDS": 30,
    "LEAST_SIZE": 2,
    "MOST_SIZE": 29,
    "MOST_COMMANDS": 400,
    "MOST_TIMES": 1000000000000000000000000000000,
    "MOST_EDITS": 500,
}


class LimitsTest(unittest.TestCase):
    def test_values(self):
        for name, value in VALUES.items():
            with self.subTest(name):
                self.assertIs(type(getattr(limits, name)), int)
                self.assertEqual(getattr(limits, name), value)


if __name__ == "__main__":
    unittest.main()
