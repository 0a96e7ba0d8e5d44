import unittest

from heldby import limits


class LimitsTest(unittest.TestCase):
    def test_values(self):
        told = {name: value for name, value in vars(limits).items() if not name.startswith("_")}
        self.assertEqual(
            told,
            {
                "FUNCTIONS": 10, "DEPTH": 5, "CHAIN": 12, "STATEMENTS": 60, "COURSE": 100, "FAMILY": 1500,
                "MOMENTS": 100000, "STANDS": 3000,
            },
        )
