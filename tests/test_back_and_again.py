"""Point 8: back, again and log."""

import unittest

from tests.talk import ask, lines, loaded
from tests.test_taking_back import ALWAYS_0, FALL, HOLD

MOST = 4294967295
LAMP = ("in dark 2", "out lamp 1", "rule dark > 0 -> lamp = 1", "rule dark = 0 -> lamp = 0")
# a and b hold one another at 1, once one of them is.
LATCH = ("out a 1", "out b 1", "rule b = 1 -> a = 1", "rule a = 1 -> b = 1")
HARMLESS = "never dark > 2"


def before_and_behind(*between):
    """What's answered to back, again and log behind two events, one of them taken back, and these calls."""
    given = ask(loaded(*LAMP), ("add", 0, HARMLESS), ("drop", 0), ("set", 0, 2), ("set", 0, 1), ("back",), *between,
                ("log", 0), ("log", 1), ("again",), ("back",), ("back",), ("back",))
    return given[6:-6], given[-6:]


KEPT = [[0, 2], [-2], [0], [1], [0], [-6]]
FORGOTTEN = [[-2], [-2], [-6], [-6], [-6], [-6]]


class Back(unittest.TestCase):
    def test_nothing_to_take_back(self):
        self.assertEqual(ask(loaded(*LAMP), ("back",), ("look", 0, 1), ("back",), ("set", 0, 3), ("back",),
                             ("set", 2, 0), ("back",), ("values",)),
                         [[2], [-6], [1, 1, 1], [-6], [-34], [-6], [-2], [-6], [2, 0, 0]])

    def test_one_event(self):
        self.assertEqual(ask(loaded(*LAMP), ("set", 0, 2), ("values",), ("back",), ("values",), ("back",), ("values",)),
                         [[2], [1], [2, 2, 1], [0], [2, 0, 0], [-6], [2, 0, 0]])

    def test_back_behind_back_to_the_last(self):
        self.assertEqual(ask(loaded(*LAMP), ("set", 0, 2), ("set", 0, 1), ("set", 0, 0), ("back",), ("values",),
                             ("back",), ("values",), ("back",), ("values",), ("back",)),
                         [[2], [1], [0], [1], [2], [2, 1, 1], [1], [2, 2, 1], [0], [2, 0, 0], [-6]])

    def test_the_state_is_as_before_though_no_event_leads_there(self):
        self.assertEqual(ask(loaded(*LATCH), ("set", 0, 1), ("set", 0, 0), ("set", 1, 0), ("values",), ("back",),
                             ("back",), ("values",), ("back",), ("values",), ("count",)),
                         [[2], [1], [1], [1], [2, 1, 1], [2], [1], [2, 1, 1], [0], [2, 0, 0], [2]])

    def test_the_state_before_may_be_one_that_the_start_settled_in(self):
        self.assertEqual(ask(loaded("out a 3", "rule a = 0 -> a = 1", "rule a = 1 -> a = 2"), ("set", 0, 3), ("back",),
                             ("values",)), [[1], [0], [0], [1, 2]])

    def test_an_event_that_changed_nothing(self):
        self.assertEqual(ask(loaded(*LAMP), ("set", 0, 0), ("set", 1, 1), ("back",), ("values",), ("back",), ("back",)),
                         [[2], [0], [1], [1], [2, 0, 0], [0], [-6]])

    def test_set_behind_back(self):
        self.assertEqual(ask(loaded(*LAMP), ("set", 0, 2), ("set", 0, 1), ("back",), ("set", 0, 0), ("again",),
                             ("log", 0), ("log", 1), ("log", 2), ("back",), ("values",), ("again",), ("values",),
                             ("again",)),
                         [[2], [1], [0], [1], [1], [-6], [0, 0], [0, 2], [-2], [1], [2, 2, 1], [0], [2, 0, 0], [-6]])

    def test_set_of_the_same_behind_back(self):
        self.assertEqual(ask(loaded(*LAMP), ("set", 0, 2), ("set", 0, 1), ("back",), ("back",), ("set", 0, 2),
                             ("again",), ("back",), ("back",)),
                         [[2], [1], [0], [1], [0], [1], [-6], [0], [-6]])


class Again(unittest.TestCase):
    def test_none_was_taken_back(self):
        self.assertEqual(ask(loaded(*LAMP), ("again",), ("set", 0, 2), ("again",), ("back",), ("again",), ("again",)),
                         [[2], [-6], [1], [-6], [0], [0], [-6]])

    def test_again_behind_again(self):
        self.assertEqual(ask(loaded(*LAMP), ("set", 0, 2), ("set", 0, 1), ("set", 0, 0), ("back",), ("back",),
                             ("back",), ("again",), ("values",), ("again",), ("values",), ("again",), ("values",),
                             ("again",), ("values",)),
                         [[2], [1], [0], [1], [2], [1], [0], [2], [2, 2, 1], [1], [2, 1, 1], [0], [2, 0, 0],
                          [-6], [2, 0, 0]])

    def test_it_settles_again(self):
        self.assertEqual(ask(loaded(*LATCH), ("set", 1, 1), ("back",), ("values",), ("again",), ("values",), ("back",),
                             ("values",)), [[2], [1], [0], [2, 0, 0], [0], [2, 1, 1], [0], [2, 0, 0]])

    def test_what_was_done_again_can_be_taken_back_again(self):
        self.assertEqual(ask(loaded(*LAMP), ("set", 0, 2), ("set", 0, 1), *[("back",), ("again",)] * 3, ("back",),
                             ("back",), ("again",), ("set", 1, 0), ("again",), ("back",), ("back",)),
                         [[2], [1], [0]] + [[1], [0]] * 3 + [[1], [0], [1], [1], [-6], [1], [0]])


class Log(unittest.TestCase):
    def test_the_last_first(self):
        self.assertEqual(ask(loaded(*LAMP), ("log", 0), ("set", 0, 2), ("log", 0), ("log", 1), ("set", 1, 0),
                             ("log", 0), ("log", 1), ("log", 2), ("set", 0, 1), ("log", 0), ("log", 1), ("log", 2),
                             ("log", 3), ("log", MOST)),
                         [[2], [-2], [1], [0, 2], [-2], [1], [1, 0], [0, 2], [-2], [0], [0, 1], [1, 0], [0, 2], [-2],
                          [-2]])

    def test_the_value_that_it_was_set_to_not_the_one_that_it_came_to(self):
        self.assertEqual(ask(loaded(*LAMP), ("set", 1, 1), ("values",), ("log", 0)), [[2], [1], [2, 0, 0], [1, 1]])

    def test_behind_back_and_again(self):
        self.assertEqual(ask(loaded(*LAMP), ("set", 0, 2), ("set", 0, 1), ("back",), ("log", 0), ("log", 1), ("back",),
                             ("log", 0), ("again",), ("log", 0), ("log", 1), ("again",), ("log", 0), ("log", 1)),
                         [[2], [1], [0], [1], [0, 2], [-2], [0], [-2], [1], [0, 2], [-2], [0], [0, 1], [0, 2]])

    def test_what_is_refused_or_only_asked_is_not_among_them(self):
        self.assertEqual(ask(loaded(*LAMP), ("set", 0, 1), ("set", 0, 3), ("set", 2, 0), ("look", 0, 2), ("log", 0),
                             ("log", 1)), [[2], [1], [-34], [-2], [0, 2, 1], [0, 1], [-2]])


class FiftyEvents(unittest.TestCase):
    # The first events differ from all others, by their values and by what was before them.
    first = [("set", 0, 3), ("set", 0, 2)]

    def ask(self, count, *behind):
        events = self.first + [("set", 0, k % 2) for k in range(count - 2)]
        return ask(loaded("in a 3"), *events, *behind)[1 + count:]

    def test_50_events_are_all_kept(self):
        given = self.ask(50, ("log", 49), ("log", 48), ("log", 50), *[("back",)] * 50, ("values",), ("back",))
        self.assertEqual(given, [[0, 3], [0, 2], [-2]] + [[k] for k in range(49, -1, -1)] + [[1, 0], [-6]])

    def test_of_51_the_oldest_is_forgotten(self):
        given = self.ask(51, ("log", 49), ("log", 48), ("log", 50), *[("back",)] * 50, ("values",), ("back",),
                         ("values",), ("state",))
        self.assertEqual(given, [[0, 2], [0, 0], [-2]] + [[k] for k in range(49, -1, -1)]
                         + [[1, 3], [-6], [1, 3], [1, 1, 0, 0, 50, 0, 0]])

    def test_of_52_the_two_oldest(self):
        given = self.ask(52, ("log", 49), ("log", 50), *[("back",)] * 50, ("values",), ("back",))
        self.assertEqual(given, [[0, 0], [-2]] + [[k] for k in range(49, -1, -1)] + [[1, 2], [-6]])

    def test_all_50_are_done_again_and_one_more(self):
        given = self.ask(51, *[("back",)] * 50, *[("again",)] * 50, ("again",), ("log", 49), ("log", 0), ("set", 0, 3),
                         ("log", 49), ("log", 50), ("log", 0), ("state",))[50:]
        self.assertEqual(given, [[k] for k in range(49, -1, -1)]
                         + [[-6], [0, 2], [0, 0], [0], [0, 0], [-2], [0, 3], [1, 1, 0, 50, 0, 0, 0]])

    def test_one_taken_back_makes_room(self):
        given = self.ask(50, ("back",), ("set", 0, 3), ("log", 49), ("log", 0), ("set", 0, 3), ("log", 49))
        self.assertEqual(given, [[49], [0], [0, 3], [0, 3], [0], [0, 2]])


class BehindChanges(unittest.TestCase):
    def test_nothing_between(self):
        self.assertEqual(before_and_behind(), ([], KEPT))

    def test_a_change_forgets_all_events(self):
        for change, answer in ((("add", 0, HARMLESS), [3]), (("drop", 1), [1]), (("move", 0, 1), [1]),
                               (("move", 1, 1), [1]), (("unedit",), [1])):
            with self.subTest(change=change):
                self.assertEqual(before_and_behind(change), ([answer], FORGOTTEN))

    def test_reedit_forgets_all_events(self):
        calls = (("unedit",), ("set", 0, 1), ("set", 0, 2), ("back",), ("reedit",))
        self.assertEqual(before_and_behind(*calls), ([[1], [0], [0], [1], [0]], FORGOTTEN))

    def test_a_change_that_is_refused_forgets_none(self):
        for change, answer in ((("add", 3, HARMLESS), -22), (("add", 0, "x"), -71), (("add", 0, "never dark = 2"), -42),
                               (("add", 0, "rule lamp = 1 -> lamp = 0"), -41), (("drop", 2), -2), (("move", 0, 2), -2),
                               (("move", 2, 0), -2), (("reedit",), -6)):
            with self.subTest(change=change):
                self.assertEqual(before_and_behind(change), ([[answer]], KEPT))

    def test_what_only_asks_forgets_none(self):
        for question, answer in ((("mayadd", 0, HARMLESS), [0]), (("maydrop", 0), [0]), (("maymove", 0, 1), [0]),
                                 (("mayload", "in a 1"), [0]), (("look", 0, 0), [1, 0, 0]), (("count",), [3]),
                                 (("could", "dark = 0"), [1, 0, 0]), (("idle",), [0]), (("values",), [2, 2, 1])):
            with self.subTest(question=question):
                self.assertEqual(before_and_behind(question), ([answer], KEPT))

    def test_an_event_that_is_refused_forgets_none(self):
        self.assertEqual(before_and_behind(("set", 0, 3), ("set", 2, 0)), ([[-34], [-2]], KEPT))

    def test_an_unedit_that_is_refused_forgets_none(self):
        house = loaded("in c 1", "out a 1", "out b 1", *FALL, "never a = 1")
        given = ask(house, ("drop", 2), ("add", 0, "rule c = 1 -> a = 1"), ("set", 0, 1), ("set", 2, 1), ("unedit",),
                    ("values",), ("set", 0, 0), ("set", 0, 1), ("back",), ("unedit",), ("log", 0), ("again",), ("back",),
                    ("back",), ("values",), ("back",))
        self.assertEqual(given, [[3], [2], [3], [1], [0], [1], [3, 1, 1, 1], [0], [0], [1], [-42], [0, 0], [0], [1],
                                 [0], [3, 1, 1, 1], [-6]])

    def test_a_reedit_that_is_refused_forgets_none(self):
        house = loaded("out p 1", "out s 1", "out u 1", *HOLD, "never and s = 1 p = 0")
        given = ask(house, ("add", 0, ALWAYS_0), ("unedit",), ("set", 1, 1), ("set", 1, 1), ("set", 0, 0), ("back",),
                    ("reedit",), ("log", 0), ("values",), ("again",), ("back",), ("back",), ("back",), ("values",),
                    ("back",), ("reedit",), ("again",))
        self.assertEqual(given, [[3], [6], [0], [2], [1], [1], [2], [-42], [1, 1], [3, 1, 1, 1], [0], [2], [1], [0],
                                 [3, 0, 0, 0], [-6], [0], [-6]])

    def test_events_behind_a_change_are_taken_back_to_it_and_no_further(self):
        self.assertEqual(ask(loaded(*LAMP), ("set", 0, 2), ("add", 0, "rule dark = 2 -> lamp = 0"), ("values",),
                             ("set", 0, 1), ("back",), ("values",), ("back",), ("unedit",), ("values",), ("back",),
                             ("again",)),
                         [[2], [1], [3], [2, 2, 0], [1], [0], [2, 2, 0], [-6], [0], [2, 2, 1], [-6], [-6]])

    def test_a_load_forgets_all_and_one_that_is_refused_none(self):
        house = ("load", lines(*LAMP))
        self.assertEqual(before_and_behind(house), ([[2]], FORGOTTEN))
        self.assertEqual(before_and_behind(("begin",), house), ([[0], [2]], FORGOTTEN))
        for text, answer in (("x", -1001), ("", -28), (" " * 1201, -22), ("in b 1\nnever b = 0", -42),
                             ("out b 1\nrule b = 0 -> b = 1\nrule b = 1 -> b = 0", -41)):
            with self.subTest(text=text):
                self.assertEqual(before_and_behind(("load", text)), ([[answer]], KEPT))

    def test_begin_forgets_all(self):
        self.assertEqual(before_and_behind(("begin",)), ([[0]], [[-61]] * 6))


if __name__ == "__main__":
    unittest.main()
