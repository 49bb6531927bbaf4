"""Points 2 to 5: tell, add, drop, move, and mayadd, maydrop, maymove."""

import unittest

from tests.talk import ask, ask_last, loaded, told

MOST = 4294967295
LAMP = ("in dark 1", "out lamp 1")
FOLLOW = ("rule dark = 1 -> lamp = 1", "rule dark = 0 -> lamp = 0")
# a and b hold one another at 1, once one of them is.
LATCH = ("out a 1", "out b 1", "rule b = 1 -> a = 1", "rule a = 1 -> b = 1")


class Tell(unittest.TestCase):
    def test_a_house_with_things_alone(self):
        self.assertEqual(ask_last(loaded("in a 3"), ("tell",)), [7] + [105, 110, 32, 97, 32, 51, 10])

    def test_things_then_entries_with_one_blank_between(self):
        text = " in dark  1\nnever   dark > 1\nout lamp 1\nrule  not dark = 0 ->   lamp = 1 "
        parts = ("in dark 1", "out lamp 1", "never dark > 1", "rule not dark = 0 -> lamp = 1")
        self.assertEqual(ask_last(("load", text), ("tell",)), told(*parts))

    def test_what_is_told_can_be_loaded_and_is_told_again(self):
        parts = LAMP + FOLLOW + ("never and dark = 1 lamp = 0",)
        text = bytes(ask_last(loaded(*parts), ("tell",))[1:])
        self.assertEqual(ask(("load", text), ("tell",)), [[2], told(*parts)])

    def test_a_line_that_was_added_is_told_by_its_words(self):
        self.assertEqual(ask_last(loaded("out a 1"), ("add", 0, "  never   a >  1  "), ("tell",)),
                         told("out a 1", "never a > 1"))


class Add(unittest.TestCase):
    def test_at_0_in_the_middle_and_at_the_end(self):
        given = ask(loaded("out a 3"), ("add", 0, "never a > 3"), ("add", 1, "rule a = 1 -> a = 1"),
                    ("add", 0, "rule a = 2 -> a = 2"), ("add", 1, "never a < 0"), ("tell",))
        self.assertEqual(given, [[1], [1], [2], [3], [4], told(
            "out a 3", "rule a = 2 -> a = 2", "never a < 0", "never a > 3", "rule a = 1 -> a = 1")])

    def test_above_the_end(self):
        line = "never a > 1"
        self.assertEqual(ask(loaded("out a 1"), ("add", 1, line), ("add", MOST, line), ("add", 0, line),
                             ("add", 2, line), ("add", 1, line), ("mayadd", 3, line), ("mayadd", 2, line)),
                         [[1], [-22], [-22], [1], [-22], [2], [-22], [0]])

    def test_lines_that_say_no_rule_and_no_ban(self):
        wrong = ("", " ", "x", "in b 1", "out b 1", "out a 1", "never a = 2", "never b = 0", "rule a = 1 -> a = 2",
                 "never a > 1\n", "\nnever a > 1", "never a\n> 1", "never a > 1\nnever a > 1", "never a > 1\t",
                 "never a > 1\x1f", "never a > 1\x7f", "never a > 1 \xff", "never", "rule a = 1 -> in = 1",
                 " " * 90 + "never a > 1", "never a > 1" + " " * 90, "never a > 1 ~", "NEVER a > 1")
        for line in wrong:
            with self.subTest(line=line):
                self.assertEqual(ask(loaded("out a 1"), ("add", 0, line), ("mayadd", 0, line), ("tell",)),
                                 [[1], [-71], [-71], told("out a 1")])

    def test_a_line_of_100_bytes(self):
        for line in (" " * 89 + "never a > 1", "never a > 1" + " " * 89):
            self.assertEqual(ask(loaded("out a 1"), ("mayadd", 0, line), ("add", 0, line)), [[1], [0], [1]])

    def test_a_rule_that_sets_a_thing_that_is_in(self):
        self.assertEqual(ask(loaded(*LAMP), ("add", 0, "rule lamp = 1 -> dark = 1"),
                             ("add", 0, "rule dark = 1 -> lamp = 1")), [[2], [-71], [1]])

    def test_a_line_may_name_things_that_were_told_behind_entries(self):
        text = "out a 1\nnever a > 1\nout b 1"
        self.assertEqual(ask(("load", text), ("add", 0, "rule b = 1 -> a = 1")), [[2], [2]])

    def test_the_16th_and_the_17th(self):
        full = loaded("out a 1", *["never a > 1"] * 15)
        line = "never a > 1"
        self.assertEqual(ask(full, ("add", 15, line), ("add", 0, line), ("add", 16, line), ("mayadd", 16, line),
                             ("drop", 0), ("add", 0, line)), [[1], [16], [-12], [-12], [-12], [15], [16]])

    def test_the_order_of_refusals(self):
        full = loaded("out a 1", *["never a > 1"] * 16)
        for name in ("add", "mayadd"):
            self.assertEqual(ask(full, (name, 17, "x"), (name, 17, "never a = 0"), (name, 16, "x"),
                                 (name, 16, "never a = 0"), (name, 0, "rule a = 0 -> a = 1")),
                             [[1], [-22], [-22], [-71], [-12], [-12]])
        self.assertEqual(ask(loaded("out a 1"), ("add", 1, "x"), ("mayadd", 1, "never a = 0")), [[1], [-22], [-22]])

    def test_a_change_that_does_not_settle(self):
        self.assertEqual(ask(loaded(*LAMP + FOLLOW[:1]), ("mayadd", 1, "rule lamp = 1 -> lamp = 0"),
                             ("mayadd", 0, "rule lamp = 1 -> lamp = 0"), ("add", 0, "rule lamp = 1 -> lamp = 0"),
                             ("tell",), ("add", 1, "rule lamp = 1 -> lamp = 0"), ("look", 0, 1), ("look", 1, 1)),
                         [[2], [0], [1, 0, 1], [-41], told(*LAMP + FOLLOW[:1]), [2], [1, 1, 1], [1, 0, 0]])

    def test_a_change_that_breaks_a_ban(self):
        ban = "never and dark = 1 lamp = 1"
        parts = LAMP + FOLLOW
        self.assertEqual(ask(loaded(*parts), ("mayadd", 0, ban), ("mayadd", 2, ban), ("mayadd", 1, ban),
                             ("add", 1, ban), ("add", 0, ban), ("tell",)),
                         [[2], [2, 0, 0, 1], [2, 2, 0, 1], [2, 1, 0, 1], [-42], [-42], told(*parts)])

    def test_that_it_does_not_settle_is_told_ahead_of_a_ban(self):
        base = ("in a 1", "in b 1", "out c 1", "rule and a = 1 c = 1 -> c = 0", "rule and b = 1 c = 1 -> c = 0",
                "never and a = 1 c = 1")
        both = "rule or a = 1 and b = 1 c = 0 -> c = 1"
        self.assertEqual(ask(loaded(*base), ("mayadd", 0, both), ("add", 0, both), ("mayadd", 0, "rule a = 1 -> c = 1"),
                             ("add", 0, "rule a = 1 -> c = 1")), [[3], [1, 1, 1], [-41], [2, 3, 0, 1], [-42]])

    def test_judged_from_where_the_house_is(self):
        self.assertEqual(ask(loaded(*LATCH), ("mayadd", 0, "never a = 0"), ("add", 0, "never a = 0"),
                             ("mayadd", 0, "never b = 1"), ("set", 0, 1), ("mayadd", 0, "never b = 1"),
                             ("mayadd", 0, "never a = 0"), ("add", 0, "never a = 0"), ("set", 0, 0),
                             ("look", 1, 0)),
                         [[2], [2, 0], [-42], [2, 0, 0, 1], [1], [2, 0], [0], [3], [1], [1, 1, 1]])

    def test_a_way_from_where_the_house_is(self):
        three = loaded("in a 1", "in b 1", "in c 1")
        ban = "never and and a = 1 b = 1 c = 1"
        self.assertEqual(ask(three, ("mayadd", 0, ban), ("set", 1, 1), ("mayadd", 0, ban), ("set", 0, 1),
                             ("mayadd", 0, ban), ("set", 2, 1), ("mayadd", 0, ban)),
                         [[3], [2, 0, 0, 1, 1, 1, 2, 1], [0], [2, 0, 0, 1, 2, 1], [0], [2, 0, 2, 1], [0], [2, 0]])

    def test_the_house_is_in_the_state_in_which_it_settles(self):
        self.assertEqual(ask(loaded("out a 3"), ("add", 0, "rule a = 0 -> a = 1"), ("look", 0, 3), ("set", 0, 3),
                             ("add", 1, "rule a = 3 -> a = 2"), ("add", 0, "rule a = 2 -> a = 1"),
                             ("mayadd", 0, "never a = 1"), ("mayadd", 0, "never a > 1")),
                         [[1], [1], [0, 3], [0], [2], [3], [2, 0], [0]])

    def test_a_rule_above_the_one_that_decided(self):
        above = "rule dark = 1 -> lamp = 0"
        self.assertEqual(ask(loaded(*LAMP + FOLLOW), ("set", 0, 1), ("look", 0, 1), ("add", 1, above),
                             ("look", 0, 1), ("add", 0, above), ("look", 0, 1), ("look", 1, 1), ("tell",)),
                         [[2], [1], [0, 1, 1], [3], [0, 1, 1], [4], [0, 1, 0], [1, 1, 0],
                          told(*LAMP + (above, FOLLOW[0], above, FOLLOW[1]))])


class Drop(unittest.TestCase):
    def test_drop(self):
        parts = ("out a 3", "never a > 3", "rule a = 1 -> a = 2", "never a = 1")
        self.assertEqual(ask(loaded(*parts), ("drop", 0), ("tell",), ("drop", 1), ("tell",), ("drop", 0), ("tell",)),
                         [[1], [2], told(parts[0], parts[2], parts[3]), [1], told(parts[0], parts[2]), [0],
                          told(parts[0])])

    def test_no_such_entry(self):
        for name in ("drop", "maydrop"):
            self.assertEqual(ask(loaded("out a 1"), (name, 0), (name, MOST)), [[1], [-2], [-2]])
            self.assertEqual(ask(loaded("out a 1", "never a > 1"), (name, 1), (name, 2)), [[1], [-2], [-2]])

    def test_a_rule_that_keeps_a_ban(self):
        parts = LAMP + FOLLOW + ("never and dark = 0 lamp = 1",)
        self.assertEqual(ask(loaded(*parts), ("maydrop", 1), ("drop", 1), ("tell",), ("maydrop", 0), ("maydrop", 2),
                             ("drop", 2), ("drop", 1)),
                         [[2], [2, 1, 1, 1], [-42], told(*parts), [0], [0], [2], [1]])

    def test_a_rule_that_keeps_it_settled(self):
        parts = ("out a 1", "rule a = 1 -> a = 1", "rule a = 1 -> a = 0", "rule a = 0 -> a = 1")
        self.assertEqual(ask(loaded(*parts), ("maydrop", 0), ("drop", 0), ("tell",), ("maydrop", 2), ("drop", 1)),
                         [[1], [1], [-41], told(*parts), [0], [2]])

    def test_refused_in_one_state_and_not_in_another(self):
        # a and b fall back to 0 unless both are 1: from 0 they never come to be 1.
        house = loaded("out a 1", "out b 1", "out c 1", "rule a = 1 -> c = 1", "never and a = 1 c = 0")
        fall = (("add", 2, "rule b = 0 -> a = 0"), ("add", 3, "rule a = 0 -> b = 0"))
        self.assertEqual(ask(house, *fall, ("maydrop", 0), ("drop", 0)), [[3], [3], [4], [0], [3]])
        self.assertEqual(ask(house, ("set", 0, 1), ("set", 1, 1), *fall, ("maydrop", 0), ("drop", 0), ("set", 0, 0),
                             ("maydrop", 0), ("drop", 0)),
                         [[3], [1], [0], [3], [4], [2, 0, 2, 0], [-42], [1], [0], [3]])


class Move(unittest.TestCase):
    def setUp(self):
        self.lines = ["never a > 3", "rule a = 1 -> a = 1", "rule a = 2 -> a = 2", "never a < 0"]

    def moved(self, number, place):
        entries = list(self.lines)
        entries.insert(place, entries.pop(number))
        return entries

    def test_every_entry_to_every_place(self):
        for number in range(4):
            for place in range(4):
                with self.subTest(number=number, place=place):
                    self.assertEqual(ask(loaded("out a 3", *self.lines), ("maymove", number, place),
                                         ("move", number, place), ("tell",)),
                                     [[1], [0], [place], told("out a 3", *self.moved(number, place))])

    def test_upwards_downwards_by_hand(self):
        a, b, c, d = self.lines
        house = loaded("out a 3", *self.lines)
        self.assertEqual(ask_last(house, ("move", 0, 2), ("tell",)), told("out a 3", b, c, a, d))
        self.assertEqual(ask_last(house, ("move", 3, 1), ("tell",)), told("out a 3", a, d, b, c))
        self.assertEqual(ask_last(house, ("move", 1, 3), ("tell",)), told("out a 3", a, c, d, b))

    def test_no_such_entry_or_place(self):
        house = loaded("out a 3", *self.lines)
        for name in ("move", "maymove"):
            self.assertEqual(ask(house, (name, 4, 0), (name, 0, 4), (name, MOST, 0), (name, 0, MOST), (name, 4, 4),
                                 ("tell",)), [[1]] + [[-2]] * 5 + [told("out a 3", *self.lines)])
            self.assertEqual(ask(loaded("out a 3"), (name, 0, 0)), [[1], [-2]])

    def test_to_its_own_place_is_a_change(self):
        self.assertEqual(ask(loaded("out a 1", "never a > 1"), ("move", 0, 0), ("unedit",), ("unedit",), ("reedit",),
                             ("tell",)), [[1], [0], [0], [-6], [0], told("out a 1", "never a > 1")])

    def test_a_move_that_breaks_a_ban(self):
        parts = LAMP + ("rule dark = 1 -> lamp = 1", "rule not dark = 0 -> lamp = 0", "never and dark = 1 lamp = 0")
        self.assertEqual(ask(loaded(*parts), ("maymove", 0, 1), ("move", 0, 1), ("maymove", 1, 0), ("move", 1, 0),
                             ("maymove", 0, 2), ("maymove", 2, 0), ("tell",), ("move", 2, 0), ("maymove", 1, 2)),
                         [[2], [2, 2, 0, 1], [-42], [2, 2, 0, 1], [-42], [2, 1, 0, 1], [0], told(*parts), [0],
                          [2, 0, 0, 1]])

    def test_refused_in_one_state_and_not_in_another(self):
        house = loaded("out a 1", "out b 1", "out c 1", "rule a = 1 -> c = 1", "rule a = 1 -> c = 0",
                       "never and a = 1 c = 0")
        fall = (("add", 3, "rule b = 0 -> a = 0"), ("add", 4, "rule a = 0 -> b = 0"))
        self.assertEqual(ask(house, *fall, ("maymove", 0, 1), ("move", 1, 0)), [[3], [4], [5], [0], [0]])
        self.assertEqual(ask(house, ("set", 0, 1), ("set", 1, 1), *fall, ("maymove", 0, 1), ("move", 1, 0)),
                         [[3], [1], [0], [4], [5], [2, 2], [-42]])

    def test_a_move_that_does_not_settle(self):
        parts = ("out a 1", "rule a = 1 -> a = 1", "rule a = 0 -> a = 1", "rule a = 1 -> a = 0")
        self.assertEqual(ask(loaded(*parts), ("maymove", 0, 2), ("move", 0, 2), ("maymove", 0, 1), ("tell",),
                             ("move", 0, 1), ("tell",)),
                         [[1], [1], [-41], [0], told(*parts), [1], told(parts[0], parts[2], parts[1], parts[3])])

    def test_a_move_that_makes_it_settle_elsewhere(self):
        parts = LAMP + ("rule dark = 1 -> lamp = 1", "rule dark = 1 -> lamp = 0")
        self.assertEqual(ask(loaded(*parts), ("set", 0, 1), ("move", 1, 0), ("look", 0, 0), ("move", 1, 0),
                             ("look", 0, 0)), [[2], [1], [0], [0, 0, 0], [0], [0, 0, 1]])


if __name__ == "__main__":
    unittest.main()
