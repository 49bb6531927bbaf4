"""Point 6: unedit and reedit."""

import unittest

from tests.talk import ask, ask_last, loaded, told

# a and b fall back to 0 unless both are 1, so that from 0 they never come to be 1.
FALL = ("rule b = 0 -> a = 0", "rule a = 0 -> b = 0")
# s is taken back while p is 0, unless u, which follows s, is 1 already; p follows s.
HOLD = ("rule and u = 0 p = 0 -> s = 0", "rule s = 1 -> u = 1", "rule s = 0 -> u = 0", "rule s = 1 -> p = 1")
ALWAYS_0 = "rule or p = 0 p = 1 -> p = 0"


class Unedit(unittest.TestCase):
    def test_nothing_to_take_back(self):
        self.assertEqual(ask(loaded("out a 1", "never a > 1"), ("unedit",), ("set", 0, 1), ("unedit",),
                             ("mayadd", 0, "never a > 1"), ("unedit",), ("add", 0, "x"), ("unedit",),
                             ("add", 0, "never a = 1"), ("unedit",)),
                         [[1], [-6], [0], [-6], [0], [-6], [-71], [-6], [-42], [-6]])

    def test_each_kind_of_change(self):
        a, b, c = "never a > 3", "never a < 0", "rule a = 1 -> a = 1"
        house = loaded("out a 3", a, b)
        for change in (("add", 1, c), ("drop", 0), ("move", 0, 1), ("move", 1, 0), ("add", 0, c), ("drop", 1)):
            with self.subTest(change=change):
                given = ask(house, change, ("tell",), ("unedit",), ("tell",), ("unedit",), ("reedit",), ("tell",),
                            ("reedit",))
                self.assertEqual(given[3:], [[0], told("out a 3", a, b), [-6], [0], given[2], [-6]])
                self.assertNotEqual(given[2], given[4])

    def test_the_last_first(self):
        a, b, c = "never a > 3", "never a < 0", "rule a = 1 -> a = 1"
        given = ask(loaded("out a 3"), ("add", 0, a), ("add", 1, b), ("add", 0, c), ("drop", 1), ("unedit",), ("tell",),
                    ("unedit",), ("tell",), ("unedit",), ("tell",), ("unedit",), ("tell",), ("unedit",),
                    ("reedit",), ("tell",), ("reedit",), ("tell",), ("reedit",), ("tell",), ("reedit",), ("tell",),
                    ("reedit",), ("unedit",))
        self.assertEqual(given[5:], [
            [3], told("out a 3", c, a, b), [2], told("out a 3", a, b), [1], told("out a 3", a), [0], told("out a 3"),
            [-6],
            [3], told("out a 3", a), [2], told("out a 3", a, b), [1], told("out a 3", c, a, b), [0],
            told("out a 3", c, b), [-6], [3]])

    def test_20_changes_can_be_taken_back(self):
        moves = [("move", 0, 0)] * 19
        first = ("add", 0, "never a < 0")
        back = [("unedit",)] * 20
        house = loaded("out a 1", "never a > 1")
        self.assertEqual(ask(house, first, *moves, *back, ("tell",), ("unedit",))[21:],
                         [[k] for k in range(19, -1, -1)] + [told("out a 1", "never a > 1"), [-6]])

    def test_of_21_changes_the_oldest_is_forgotten(self):
        moves = [("move", 0, 0)] * 20
        first = ("add", 0, "never a < 0")
        back = [("unedit",)] * 20
        house = loaded("out a 1", "never a > 1")
        self.assertEqual(ask(house, first, *moves, *back, ("tell",), ("unedit",))[22:],
                         [[k] for k in range(19, -1, -1)] + [told("out a 1", "never a < 0", "never a > 1"), [-6]])

    def test_20_changes_are_made_again(self):
        moves = [("move", 0, 0)] * 25
        back, forth = [("unedit",)] * 20, [("reedit",)] * 20
        given = ask(loaded("out a 1", "never a > 1"), *moves, *back, *forth, ("reedit",), ("unedit",))
        self.assertEqual(given[46:], [[k] for k in range(19, -1, -1)] + [[-6], [19]])

    def test_load_and_begin_forget_all_changes(self):
        house = loaded("out a 1")
        line = "never a > 1"
        for again in ([house], [("begin",), house]):
            self.assertEqual(ask(house, ("add", 0, line), ("add", 0, line), ("unedit",), *again, ("unedit",),
                                 ("reedit",))[-2:], [[-6], [-6]])

    def test_a_refused_load_forgets_nothing(self):
        house = loaded("out a 1")
        line = "never a > 1"
        for text in ("x", "", "out a 1\nnever a = 0", "out a 1\nrule a = 0 -> a = 1\nrule a = 1 -> a = 0", " " * 1201,
                     "in a 3\nin b 3\nin c 3\nin d 1"):
            for name in ("load", "mayload"):
                self.assertEqual(ask(house, ("add", 0, line), ("add", 0, line), ("unedit",), (name, text), ("tell",),
                                     ("reedit",), ("unedit",), ("unedit",))[-4:],
                                 [told("out a 1", line), [0], [1], [0]])

    def test_it_is_a_change_too_and_settles_from_where_the_house_is(self):
        self.assertEqual(ask(loaded("out a 1", "rule a = 1 -> a = 0"), ("drop", 0), ("set", 0, 1), ("unedit",),
                             ("mayadd", 0, "never a = 1"), ("reedit",), ("mayadd", 0, "never a = 0"),
                             ("mayadd", 0, "never a = 1")),
                         [[1], [0], [0], [0], [0], [0], [2, 0], [2, 0, 0, 1]])


class BanWantedBack(unittest.TestCase):
    house = ("in c 1", "out a 1", "out b 1") + FALL + ("never a = 1",)
    rule = "rule c = 1 -> a = 1"

    def test_a_ban_dropped_a_rule_added_the_ban_wanted_back(self):
        given = ask(loaded(*self.house), ("mayadd", 0, self.rule), ("drop", 2), ("add", 0, self.rule), ("set", 0, 1),
                    ("set", 2, 1), ("mayadd", 0, "never a = 1"),
                    ("unedit",), ("tell",), ("unedit",), ("tell",), ("unedit",), ("reedit",), ("unedit",),
                    ("set", 0, 0), ("unedit",), ("set", 1, 0), ("unedit",), ("tell",), ("unedit",))
        self.assertEqual(given, [
            [3], [2, 3, 0, 1], [2], [3], [1], [0], [2, 0],
            [1], told(*self.house[:5]), [-42], told(*self.house[:5]), [-42], [0], [1],
            [0], [-42], [1], [0], told(*self.house), [-6]])

    def test_what_was_taken_back_can_be_made_again_behind_the_refusal(self):
        given = ask(loaded(*self.house), ("drop", 2), ("add", 0, self.rule), ("set", 0, 1), ("set", 2, 1), ("unedit",),
                    ("unedit",), ("reedit",), ("reedit",), ("tell",))
        self.assertEqual(given[5:], [[1], [-42], [0], [-6], told(*self.house[:3], self.rule, *FALL)])

    def test_a_rule_wanted_back_by_which_it_goes_on_for_ever(self):
        flip = ("rule and a = 1 d = 0 -> d = 1", "rule and a = 1 d = 1 -> d = 0")
        house = ("in c 1", "out a 1", "out b 1", "out d 1") + FALL + flip
        given = ask(loaded(*house), ("drop", 3), ("add", 0, self.rule), ("set", 0, 1), ("set", 2, 1), ("unedit",),
                    ("unedit",), ("tell",), ("set", 1, 0), ("unedit",), ("tell",))
        self.assertEqual(given, [[4], [3], [4], [2], [0], [1], [-41], told(*house[:7]), [1], [0], told(*house)])


class Reedit(unittest.TestCase):
    def test_nothing_to_make_again(self):
        line = "never a > 1"
        self.assertEqual(ask(loaded("out a 1"), ("reedit",), ("add", 0, line), ("reedit",), ("unedit",), ("reedit",),
                             ("reedit",)), [[1], [-6], [1], [-6], [0], [0], [-6]])

    def test_behind_another_change(self):
        line = "never a > 1"
        for other in (("add", 0, "never a < 0"), ("drop", 0), ("move", 0, 0)):
            self.assertEqual(ask(loaded("out a 1", line), ("add", 0, line), ("add", 0, line), ("unedit",), ("unedit",),
                                 other, ("reedit",), ("unedit",), ("reedit",))[-3:], [[-6], [0], [0]])

    def test_behind_what_is_no_change(self):
        line = "never a > 1"
        for other in (("add", 0, "x"), ("add", 0, "never a = 0"), ("add", 9, line), ("drop", 9), ("move", 0, 9),
                      ("add", 0, "rule a = 0 -> a = 1"), ("mayadd", 0, line), ("maydrop", 0), ("maymove", 0, 0),
                      ("set", 0, 1), ("set", 0, 9), ("look", 0, 1), ("tell",), ("load", "x"), ("mayload", "out b 1")):
            with self.subTest(other=other):
                given = ask(loaded("out a 1", line, "rule a = 1 -> a = 0"), ("add", 0, "never a < 0"), ("unedit",), other,
                            ("reedit",), ("tell",))
                self.assertEqual(given[-2:], [[0], told("out a 1", "never a < 0", line, "rule a = 1 -> a = 0")])

    def test_one_that_breaks_a_ban_now(self):
        house = ("out p 1", "out s 1", "out u 1") + HOLD + ("never and s = 1 p = 0",)
        given = ask(loaded(*house), ("add", 0, ALWAYS_0), ("unedit",), ("set", 1, 1), ("set", 1, 1),
                    ("mayadd", 0, ALWAYS_0), ("reedit",), ("tell",), ("unedit",), ("set", 1, 0), ("reedit",), ("tell",),
                    ("look", 0, 1))
        self.assertEqual(given, [[3], [6], [0], [2], [1], [2, 5], [-42], told(*house), [-6], [1], [0],
                                 told(*house[:3], ALWAYS_0, *house[3:]), [1, 0, 0, 0]])

    def test_one_that_does_not_settle_now(self):
        flip = ("rule and and s = 1 p = 0 z = 0 -> z = 1", "rule and and s = 1 p = 0 z = 1 -> z = 0")
        house = ("out p 1", "out s 1", "out u 1", "out z 1") + HOLD + flip
        given = ask(loaded(*house), ("add", 0, ALWAYS_0), ("unedit",), ("set", 1, 1), ("set", 1, 1),
                    ("mayadd", 0, ALWAYS_0), ("reedit",), ("tell",), ("set", 1, 0), ("reedit",), ("tell",))
        self.assertEqual(given, [[4], [7], [0], [2], [1], [1], [-41], told(*house), [1], [0],
                                 told(*house[:4], ALWAYS_0, *house[4:])])

    def test_a_change_behind_those_made_again(self):
        line = "never a > 1"
        self.assertEqual(ask(loaded("out a 1"), ("add", 0, line), ("unedit",), ("reedit",), ("drop", 0), ("unedit",),
                             ("unedit",), ("tell",), ("reedit",), ("tell",), ("reedit",), ("tell",)),
                         [[1], [1], [0], [0], [0], [1], [0], told("out a 1"), [1], told("out a 1", line), [0],
                          told("out a 1")])

    def test_the_taken_back_ones_of_before_are_gone_behind_a_new_change(self):
        a, b, c = "never a > 3", "never a < 0", "rule a = 1 -> a = 1"
        self.assertEqual(ask_last(loaded("out a 3"), ("add", 0, a), ("add", 0, b), ("unedit",), ("unedit",), ("add", 0, c),
                                  ("unedit",), ("reedit",), ("tell",)), told("out a 3", c))


if __name__ == "__main__":
    unittest.main()
