"""Point 11: state, behind each call that changes it and behind those that don't."""

import unittest

from tests.talk import ask, ask_last, loaded

LAMP = loaded("in dark 1", "out lamp 1", "rule dark = 1 -> lamp = 1")
LINE = "never dark > 1"
NO_HOUSE = [0, 0, 0, 0, 0, 0, 0]


class State(unittest.TestCase):
    def follow(self, *steps):
        """Each call with the state that's to be told behind it."""
        calls = [made for call, _ in steps for made in (call, ("state",))]
        for (call, expected), given in zip(steps, ask(*calls)[1::2]):
            self.assertEqual(given, expected, call)

    def test_without_a_house(self):
        self.assertEqual(ask_last(("state",)), NO_HOUSE)
        for call in (("begin",), ("load", "x"), ("mayload", "in a 1"), ("set", 0, 0), ("back",), ("unedit",), ("state",),
                     ("load", "in a 1\nnever a = 0"), ("add", 0, "never a > 1")):
            self.assertEqual(ask_last(call, ("state",)), NO_HOUSE)

    def test_load_and_begin(self):
        self.follow((LAMP, [1, 2, 1, 0, 0, 0, 0]), (("begin",), NO_HOUSE), (loaded("in a 1"), [1, 1, 0, 0, 0, 0, 0]),
                    (loaded("in a 1", "in b 1", "in c 1", "never a > 1", "never b > 1"), [1, 3, 2, 0, 0, 0, 0]))

    def test_things_and_entries_as_many_as_can_be(self):
        parts = ["out %s 1" % name for name in "abcdef"] + ["never a > 1"] * 16
        self.assertEqual(ask_last(loaded(*parts), ("state",)), [1, 6, 16, 0, 0, 0, 0])

    def test_events(self):
        self.follow((LAMP, [1, 2, 1, 0, 0, 0, 0]), (("set", 0, 1), [1, 2, 1, 1, 0, 0, 0]),
                    (("set", 0, 1), [1, 2, 1, 2, 0, 0, 0]), (("set", 1, 0), [1, 2, 1, 3, 0, 0, 0]),
                    (("back",), [1, 2, 1, 2, 1, 0, 0]), (("back",), [1, 2, 1, 1, 2, 0, 0]),
                    (("again",), [1, 2, 1, 2, 1, 0, 0]), (("back",), [1, 2, 1, 1, 2, 0, 0]),
                    (("set", 0, 0), [1, 2, 1, 2, 0, 0, 0]), (("again",), [1, 2, 1, 2, 0, 0, 0]),
                    (("back",), [1, 2, 1, 1, 1, 0, 0]), (("back",), [1, 2, 1, 0, 2, 0, 0]),
                    (("back",), [1, 2, 1, 0, 2, 0, 0]), (LAMP, [1, 2, 1, 0, 0, 0, 0]))

    def test_changes(self):
        self.follow((LAMP, [1, 2, 1, 0, 0, 0, 0]), (("add", 0, LINE), [1, 2, 2, 0, 0, 1, 0]),
                    (("move", 0, 1), [1, 2, 2, 0, 0, 2, 0]), (("move", 0, 0), [1, 2, 2, 0, 0, 3, 0]),
                    (("drop", 1), [1, 2, 1, 0, 0, 4, 0]), (("unedit",), [1, 2, 2, 0, 0, 3, 1]),
                    (("unedit",), [1, 2, 2, 0, 0, 2, 2]), (("reedit",), [1, 2, 2, 0, 0, 3, 1]),
                    (("drop", 0), [1, 2, 1, 0, 0, 4, 0]), (("reedit",), [1, 2, 1, 0, 0, 4, 0]),
                    (("unedit",), [1, 2, 2, 0, 0, 3, 1]), (LAMP, [1, 2, 1, 0, 0, 0, 0]))

    def test_events_and_changes(self):
        self.follow((LAMP, [1, 2, 1, 0, 0, 0, 0]), (("set", 0, 1), [1, 2, 1, 1, 0, 0, 0]),
                    (("add", 0, LINE), [1, 2, 2, 0, 0, 1, 0]), (("set", 0, 1), [1, 2, 2, 1, 0, 1, 0]),
                    (("set", 0, 0), [1, 2, 2, 2, 0, 1, 0]), (("back",), [1, 2, 2, 1, 1, 1, 0]),
                    (("unedit",), [1, 2, 1, 0, 0, 0, 1]), (("set", 0, 0), [1, 2, 1, 1, 0, 0, 1]),
                    (("back",), [1, 2, 1, 0, 1, 0, 1]), (("reedit",), [1, 2, 2, 0, 0, 1, 0]),
                    (("set", 1, 1), [1, 2, 2, 1, 0, 1, 0]), (("set", 1, 0), [1, 2, 2, 2, 0, 1, 0]),
                    (("back",), [1, 2, 2, 1, 1, 1, 0]), (("unedit",), [1, 2, 1, 0, 0, 0, 1]),
                    (("set", 1, 1), [1, 2, 1, 1, 0, 0, 1]), (("begin",), NO_HOUSE), (LAMP, [1, 2, 1, 0, 0, 0, 0]))

    def test_behind_what_is_refused_and_what_only_asks(self):
        before = (LAMP, ("add", 0, LINE), ("add", 0, LINE), ("unedit",), ("set", 0, 1), ("set", 0, 0), ("back",))
        expected = [1, 2, 2, 1, 1, 1, 1]
        self.assertEqual(ask_last(*before, ("state",)), expected)
        for call in (("load", "x"), ("load", ""), ("load", " " * 1201), ("load", "in a 1\nnever a = 0"),
                     ("load", "out a 1\nrule a = 0 -> a = 1\nrule a = 1 -> a = 0"), ("mayload", "in a 1"), ("tell",),
                     ("add", 3, LINE), ("add", 0, "x"), ("add", 0, "never lamp = 1"),
                     ("add", 0, "rule lamp = 1 -> lamp = 0"), ("mayadd", 0, LINE), ("mayadd", 0, "x"), ("drop", 2),
                     ("maydrop", 0), ("maydrop", 2), ("move", 0, 2), ("move", 2, 0), ("maymove", 0, 1), ("set", 2, 0),
                     ("set", 0, 2), ("look", 0, 0), ("look", 0, 2), ("value", 0), ("value", 2), ("values",), ("why", 1),
                     ("why", 0), ("why", 2), ("line", 0), ("line", 2), ("name", 0), ("name", 2), ("find", "lamp"),
                     ("find", "x"), ("could", "dark = 1"), ("could", "dark > 1"), ("could", "x"), ("count",), ("idle",),
                     ("log", 0), ("log", 1), ("state",)):
            with self.subTest(call=call):
                self.assertEqual(ask_last(*before, call, ("state",)), expected)

    def test_the_51st_event_and_the_21st_change(self):
        for count, kept in ((50, 50), (51, 50), (120, 50)):
            self.assertEqual(ask_last(LAMP, *[("set", 0, 1)] * count, ("state",)), [1, 2, 1, kept, 0, 0, 0])
        for count, kept in ((20, 20), (21, 20), (60, 20)):
            self.assertEqual(ask_last(LAMP, *[("move", 0, 0)] * count, ("state",)), [1, 2, 1, 0, 0, kept, 0])
        self.assertEqual(ask_last(LAMP, *[("move", 0, 0)] * 21, *[("unedit",)] * 21, ("state",)),
                         [1, 2, 1, 0, 0, 0, 20])
        self.assertEqual(ask_last(LAMP, *[("set", 0, 1)] * 51, *[("back",)] * 51, ("state",)), [1, 2, 1, 0, 50, 0, 0])


if __name__ == "__main__":
    unittest.main()
