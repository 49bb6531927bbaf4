"""Point 9: value, values and why."""

import unittest

from tests.talk import ask, ask_last, lines, loaded

MOST = 4294967295
THINGS = ("in dark 1", "out lamp 3")
ON, OFF = "rule dark = 1 -> lamp = 2", "rule dark = 0 -> lamp = 0"
LAMP = loaded(*THINGS, ON, OFF)


class Values(unittest.TestCase):
    def test_of_each_thing_and_of_all(self):
        self.assertEqual(ask(LAMP, ("value", 0), ("value", 1), ("values",), ("set", 0, 1), ("value", 0), ("value", 1),
                             ("values",), ("set", 1, 3), ("values",), ("set", 0, 0), ("value", 1), ("values",)),
                         [[2], [0], [0], [2, 0, 0], [1], [1], [2], [2, 1, 2], [1], [2, 1, 2], [1], [0], [2, 0, 0]])

    def test_no_such_thing(self):
        self.assertEqual(ask(LAMP, ("value", 2), ("value", MOST), ("value", 1)), [[2], [-2], [-2], [0]])
        self.assertEqual(ask(loaded("in a 1"), ("value", 0), ("value", 1), ("values",)), [[1], [0], [-2], [1, 0]])

    def test_six_things(self):
        events = [("set", 0, 1), ("set", 5, 1), ("set", 3, 1)]
        self.assertEqual(ask(loaded(*["in %s 1" % name for name in "abcdef"]), *events, ("values",), ("value", 3),
                             ("value", 4), ("value", 5), ("value", 6))[4:], [[6, 1, 0, 0, 1, 0, 1], [1], [0], [1], [-2]])

    def test_of_a_house_whose_start_settles_elsewhere(self):
        self.assertEqual(ask(loaded("in b 1", "out a 3", "rule a = 0 -> a = 1", "rule a = 1 -> a = 2"), ("values",),
                             ("value", 1)), [[2], [2, 0, 2], [2]])

    def test_what_is_looked_at_is_not_yet(self):
        self.assertEqual(ask(LAMP, ("look", 0, 1), ("values",), ("set", 0, 2), ("values",)),
                         [[2], [1, 1, 2], [2, 0, 0], [-34], [2, 0, 0]])

    def test_behind_a_change_it_is_as_it_settles_then(self):
        self.assertEqual(ask(LAMP, ("set", 0, 1), ("add", 0, "rule dark = 1 -> lamp = 3"), ("values",), ("unedit",),
                             ("values",), ("drop", 0), ("values",), ("set", 0, 0), ("values",), ("unedit",), ("values",)),
                         [[2], [1], [3], [2, 1, 3], [0], [2, 1, 2], [1], [2, 1, 2], [1], [2, 0, 0], [0], [2, 0, 0]])

    def test_behind_a_load(self):
        self.assertEqual(ask(LAMP, ("set", 0, 1), ("load", "x"), ("values",), LAMP, ("values",)),
                         [[2], [1], [-1001], [2, 1, 2], [2], [2, 0, 0]])


class Why(unittest.TestCase):
    def test_the_rule_that_decides(self):
        self.assertEqual(ask(LAMP, ("why", 1), ("set", 0, 1), ("why", 1), ("set", 0, 0), ("why", 1)),
                         [[2], [1], [1], [0], [1], [1]])

    def test_by_its_number_as_an_entry(self):
        house = loaded(*THINGS, "never dark > 1", ON, "never lamp > 3", OFF)
        self.assertEqual(ask(house, ("why", 1), ("set", 0, 1), ("why", 1)), [[2], [3], [1], [1]])

    def test_a_thing_that_no_rule_decides(self):
        self.assertEqual(ask(loaded(*THINGS, ON), ("why", 1), ("set", 1, 3), ("why", 1), ("set", 0, 1), ("why", 1),
                             ("set", 0, 0), ("why", 1), ("values",)),
                         [[2], [-6], [0], [-6], [1], [0], [0], [-6], [2, 0, 2]])
        self.assertEqual(ask(loaded("out a 1"), ("why", 0)), [[1], [-6]])

    def test_a_thing_that_is_in(self):
        self.assertEqual(ask(LAMP, ("why", 0), ("set", 0, 1), ("why", 0)), [[2], [-6], [1], [-6]])

    def test_a_ban_decides_nothing(self):
        self.assertEqual(ask(loaded("in a 1", "never a > 1", "never a < 0"), ("why", 0)), [[1], [-6]])

    def test_no_such_thing(self):
        self.assertEqual(ask(LAMP, ("why", 2), ("why", MOST)), [[2], [-2], [-2]])
        self.assertEqual(ask(loaded("in a 1"), ("why", 0), ("why", 1)), [[1], [-6], [-2]])

    def test_of_two_rules_the_first(self):
        same = "rule not dark = 0 -> lamp = 2"
        self.assertEqual(ask(loaded(*THINGS, OFF, ON, same), ("set", 0, 1), ("why", 1), ("move", 1, 2), ("why", 1),
                             ("drop", 1), ("why", 1), ("drop", 1), ("why", 1), ("values",)),
                         [[2], [1], [1], [2], [1], [2], [1], [1], [-6], [2, 1, 2]])
        other = "rule not dark = 0 -> lamp = 3"
        self.assertEqual(ask(loaded(*THINGS, other, ON), ("set", 0, 1), ("why", 1), ("value", 1), ("move", 0, 1),
                             ("why", 1), ("value", 1)), [[2], [1], [0], [3], [1], [0], [2]])

    def test_a_rule_added_above_the_one_that_decided(self):
        self.assertEqual(ask(LAMP, ("set", 0, 1), ("why", 1), ("add", 0, "rule lamp > 0 -> lamp = 3"), ("why", 1),
                             ("values",), ("add", 0, "never lamp = 1"), ("why", 1), ("add", 0, OFF), ("why", 1),
                             ("values",), ("unedit",), ("unedit",), ("unedit",), ("why", 1), ("values",)),
                         [[2], [1], [0], [3], [0], [2, 1, 3], [4], [1], [5], [2], [2, 1, 3], [2], [1], [0], [0],
                          [2, 1, 2]])

    def test_a_rule_added_below_the_one_that_decides(self):
        self.assertEqual(ask(LAMP, ("set", 0, 1), ("add", 2, "rule dark = 1 -> lamp = 3"), ("why", 1), ("values",)),
                         [[2], [1], [3], [0], [2, 1, 2]])

    def test_a_rule_that_decided_only_while_it_settled(self):
        self.assertEqual(ask(loaded("out a 2", "rule a = 1 -> a = 2"), ("set", 0, 1), ("values",), ("why", 0)),
                         [[1], [1], [1, 2], [-6]])

    def test_each_thing_by_its_own_rule(self):
        chain = lines("in a 1", "out b 1", "out c 1", "rule a = 1 -> b = 1", "rule a = 0 -> b = 0", "rule b = 1 -> c = 1",
                      "rule b = 0 -> c = 0")
        self.assertEqual(ask(("load", chain), ("why", 0), ("why", 1), ("why", 2), ("set", 0, 1), ("why", 0), ("why", 1),
                             ("why", 2), ("back",), ("why", 1), ("why", 2)),
                         [[3], [-6], [1], [3], [2], [-6], [0], [2], [0], [1], [3]])

    def test_the_16th_entry(self):
        parts = ["rule a = %d -> a = %d" % (k, k) for k in (0, 1, 2)] * 5 + ["rule a = 3 -> a = 3"]
        self.assertEqual(ask_last(loaded("out a 3", *parts), ("set", 0, 3), ("why", 0)), [15])


if __name__ == "__main__":
    unittest.main()
