"""The limits of the interface."""

import unittest

from wardens import limits

EXPECTED = {
    "STATES": 200, "READINGS": 200, "PAIRS": 400, "SETS": 200, "TWINS": 2000, "TRIALS": 400,
    "WARDENS": 8, "OPERATIONS": 60,
}


class TestLimits(unittest.TestCase):
    def test_each_number(self):
        for name, number in EXPECTED.items():
            self.assertIs(type(getattr(limits, name)), int, name)
            self.assertEqual(getattr(limits, name), number, name)

    def test_no_other_limits(self):
        found = {name for name in vars(limits) if not name.startswith("_")}
        self.assertEqual(found, set(EXPECTED))


if __name__ == "__main__":
    unittest.main()
