"""Calls made by chance: the program answers as the oracle does."""

import random
import unittest

from tests.scripts import script
from tests.talk import ask


class ByChance(unittest.TestCase):
    def check(self, seeds, length):
        for seed in seeds:
            calls, expected = script(random.Random(seed), length)
            given = ask(*calls)
            for k, call in enumerate(calls):
                self.assertEqual(given[k], expected[k], (seed, k, call))

    def test_many_short_lists(self):
        self.check(range(300), 50)

    def test_some_long_lists(self):
        self.check(range(1000, 1030), 200)


if __name__ == "__main__":
    unittest.main()
