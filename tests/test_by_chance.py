"""Calls made by chance: the program answers as the oracle does, and what the document says to hold holds."""

import random
import unittest

from tests.scripts import script
from tests.talk import ask

SCRIPTS = 400


class ByChance(unittest.TestCase):
    def test_as_the_oracle_answers(self):
        for seed in range(SCRIPTS):
            calls, expected = script(random.Random(seed), 50)
            given = ask(*calls)
            for k, call in enumerate(calls):
                self.assertEqual(given[k], expected[k], (seed, k, call))

    def test_a_change_is_refused_just_if_it_is_told_that_it_may_not_be(self):
        refusals = {1: -41, 2: -42}
        for seed in range(SCRIPTS, SCRIPTS + 60):
            calls, expected = script(random.Random(seed), 40)
            for k, call in enumerate(calls):
                if call[0] in ("load", "add", "drop", "move"):
                    asked = ask(*calls[:k], ("may" + call[0],) + call[1:])[-1]
                    refusal = refusals.get(asked[0], min(asked[0], 0))
                    self.assertEqual(min(expected[k][0], 0), refusal, (seed, k, call))

    def test_a_way_that_is_told_leads_there(self):
        tried = 0
        for seed in range(SCRIPTS, SCRIPTS + 120):
            calls, expected = script(random.Random(seed), 40)
            for k, call in enumerate(calls):
                # A ban alone changes nothing of how the house settles: the way can be gone without it.
                if call[0] == "mayadd" and bytes(call[2]).startswith(b"never") and expected[k][0] == 2:
                    way = expected[k][2:]
                    events = [("set", thing, value) for thing, value in zip(way[::2], way[1::2])]
                    self.assertEqual(ask(*calls[:k], *events, call)[-1], expected[k][:2], (seed, k, call))
                    tried += 1
        self.assertGreater(tried, 20)

    def test_the_house_keeps_its_rules(self):
        for seed in range(SCRIPTS, SCRIPTS + 60):
            calls, expected = script(random.Random(seed), 40)
            for k, call in enumerate(calls):
                if call[0] == "set" and expected[k][0] >= 0:
                    # The house as it is, judged anew from where it is, is fine.
                    self.assertIn(ask(*calls[:k + 1], ("maymove", 0, 0))[-1], ([0], [-2]), (seed, k, call))


if __name__ == "__main__":
    unittest.main()
