"""Point 7: set and look."""

import unittest

from tests.talk import ask, lines, told

MOST = 4294967295
LAMP = lines("in dark 2", "out lamp 1", "rule dark > 0 -> lamp = 1", "rule dark = 0 -> lamp = 0")
CHAIN = lines("in a 1", "out b 1", "out c 1", "rule a = 1 -> b = 1", "rule a = 0 -> b = 0", "rule b = 1 -> c = 1",
              "rule b = 0 -> c = 0")


class SetAndLook(unittest.TestCase):
    def test_a_thing_that_is_in(self):
        self.assertEqual(ask(("load", LAMP), ("look", 0, 2), ("set", 0, 2), ("look", 0, 1), ("set", 0, 1),
                             ("look", 0, 0), ("set", 0, 0), ("look", 0, 0)),
                         [[2], [1, 2, 1], [1], [0, 1, 1], [0], [1, 0, 0], [1], [0, 0, 0]])

    def test_a_thing_that_is_out(self):
        self.assertEqual(ask(("load", LAMP), ("look", 1, 1), ("set", 1, 1), ("look", 0, 0), ("set", 0, 1),
                             ("look", 1, 0), ("set", 1, 0), ("look", 0, 1)),
                         [[2], [1, 0, 0], [1], [0, 0, 0], [1], [1, 1, 1], [1], [0, 1, 1]])
        self.assertEqual(ask(("load", "out a 3"), ("set", 0, 3), ("look", 0, 1), ("look", 0, 3)),
                         [[1], [0], [0, 1], [0, 3]])

    def test_passes_that_changed_something(self):
        self.assertEqual(ask(("load", CHAIN), ("look", 0, 1), ("set", 0, 1), ("look", 2, 0), ("look", 1, 0),
                             ("set", 1, 0), ("look", 0, 0), ("set", 0, 0)),
                         [[3], [2, 1, 1, 1], [2], [1, 1, 1, 1], [2, 1, 1, 1], [2], [2, 0, 0, 0], [2]])

    def test_a_value_that_it_has_already(self):
        self.assertEqual(ask(("load", CHAIN), ("set", 0, 0), ("look", 1, 0), ("set", 0, 1), ("set", 0, 1),
                             ("look", 2, 1)), [[3], [0], [0, 0, 0, 0], [2], [0], [0, 1, 1, 1]])

    def test_a_value_that_it_has_not(self):
        for name in ("set", "look"):
            self.assertEqual(ask(("load", LAMP), (name, 0, 3), (name, 1, 2), (name, 0, MOST), (name, 1, 3),
                                 ("look", 0, 0)), [[2], [-34], [-34], [-34], [-34], [0, 0, 0]])

    def test_no_such_thing(self):
        for name in ("set", "look"):
            self.assertEqual(ask(("load", LAMP), (name, 2, 0), (name, MOST, 0), (name, 6, 1), ("look", 0, 0)),
                             [[2], [-2], [-2], [-2], [0, 0, 0]])

    def test_the_order_of_refusals(self):
        for name in ("set", "look"):
            self.assertEqual(ask(("load", LAMP), (name, 2, 9), (name, MOST, MOST)), [[2], [-2], [-2]])

    def test_a_look_changes_nothing(self):
        looks = [("look", 0, 2), ("look", 1, 1), ("look", 0, 1)]
        self.assertEqual(ask(("load", LAMP), *looks, *looks, ("tell",)),
                         [[2]] + [[1, 2, 1], [1, 0, 0], [1, 1, 1]] * 2 + [told(*LAMP.splitlines())])

    def test_every_value_can_be_set_from_every_state(self):
        for k in range(3):
            for v in range(2):
                for first in range(2):
                    given = ask(("load", CHAIN), ("set", 0, first), ("look", k, v), ("set", k, v), ("look", 0, 0))
                    self.assertGreaterEqual(given[2][0], 0)
                    self.assertEqual(given[2][0], given[3][0])

    def test_what_look_tells_is_what_set_brings(self):
        calls = [("load", CHAIN)]
        for k, v in ((0, 1), (1, 0), (2, 0), (0, 0), (2, 1), (1, 1), (0, 1), (0, 1)):
            calls += [("look", k, v), ("set", k, v), ("look", k, v)]
        given = ask(*calls)[1:]
        for looked, done, there in zip(given[::3], given[1::3], given[2::3]):
            self.assertEqual(looked[:1], done)
            self.assertEqual(looked[1:], there[1:])


if __name__ == "__main__":
    unittest.main()
