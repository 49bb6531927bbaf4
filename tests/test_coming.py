"""Point 10: could, count and idle."""

import unittest

from tests.talk import ask, ask_last, lines, loaded
from tests.test_taking_back import FALL

BITS = tuple("in %s 1" % name for name in "abc")
# a and b hold one another at 1, once one of them is.
LATCH = ("out a 1", "out b 1", "rule b = 1 -> a = 1", "rule a = 1 -> b = 1")
LAMP = ("in dark 1", "out lamp 1", "rule dark = 1 -> lamp = 1", "rule dark = 0 -> lamp = 0")


class Could(unittest.TestCase):
    def check(self, parts, condition, answer):
        with self.subTest(parts=parts, condition=condition):
            self.assertEqual(ask_last(loaded(*parts), ("could", condition)), answer)

    def test_one_that_holds_now(self):
        self.check(BITS, "a = 0", [0])
        self.check(BITS, "not and a = 1 b = 1", [0])
        self.check(("out a 3", "rule a = 0 -> a = 2"), "a = 2", [0])
        self.assertEqual(ask(loaded(*BITS), ("set", 1, 1), ("could", "b > 0"), ("could", "b = 0")),
                         [[3], [0], [0], [1, 1, 0]])

    def test_one_that_never_can(self):
        self.check(BITS, "a > 1", [-33])
        self.check(BITS, "a < 0", [-33])
        self.check(BITS, "and a = 1 a = 0", [-33])
        self.check(LAMP, "and dark = 1 lamp = 0", [-33])
        self.check(("out a 1", "out b 1") + FALL, "or a = 1 b = 1", [-33])
        self.check(LATCH, "and a = 1 b = 0", [-33])

    def test_a_way_of_one_event_and_of_several(self):
        self.check(BITS, "c = 1", [1, 2, 1])
        self.check(LAMP, "lamp = 1", [1, 0, 1])
        self.check(BITS, "and and a = 1 b = 1 c = 1", [3, 0, 1, 1, 1, 2, 1])
        self.check(("in a 3", "in b 3"), "and a = 2 b = 3", [2, 0, 2, 1, 3])

    def test_of_several_ways_of_a_length_the_first(self):
        self.check(BITS, "or c = 1 b = 1", [1, 1, 1])
        self.check(BITS, "or and b = 1 c = 1 and a = 1 c = 1", [2, 0, 1, 2, 1])
        self.check(("in a 3",), "a > 1", [1, 0, 2])
        self.check(("in a 3",), "or a = 3 a = 1", [1, 0, 1])
        self.check(("in a 3", "in b 2"), "and not a < 2 b > 0", [2, 0, 2, 1, 1])
        self.assertEqual(ask(loaded(*BITS), ("set", 0, 1), ("set", 2, 1), ("could", "and a = 0 c = 0")),
                         [[3], [0], [0], [2, 0, 0, 2, 0]])

    def test_the_shorter_way_though_its_events_are_greater(self):
        self.check(BITS, "or and a = 1 b = 1 c = 1", [1, 2, 1])

    def test_things_that_are_out_are_set_by_hand_too(self):
        self.check(LATCH, "b = 1", [1, 0, 1])
        self.check(("in c 1", "out a 1"), "a = 1", [1, 1, 1])

    def test_a_way_by_what_it_settles_in(self):
        # b goes up with a step by step, and falls to 0 where it's too far ahead.
        steps = ("in a 3", "out b 3", "rule and a = 1 b = 0 -> b = 1", "rule and a = 2 b = 1 -> b = 2",
                 "rule and a = 3 b = 2 -> b = 3", "rule and a < 1 b > 0 -> b = 0", "rule and a < 2 b > 1 -> b = 0",
                 "rule and a < 3 b > 2 -> b = 0")
        self.check(steps, "b = 3", [2, 0, 3, 1, 2])
        self.check(steps, "and a = 1 b = 1", [1, 0, 1])
        self.check(steps, "and a = 0 b = 1", [-33])
        self.assertEqual(ask(loaded(*steps), ("set", 0, 1), ("set", 0, 2), ("could", "b = 3")),
                         [[2], [1], [1], [1, 0, 3]])

    def test_a_state_that_only_passes_go_through_does_not_come(self):
        self.check(("out a 1", "rule a = 1 -> a = 0"), "a = 1", [-33])
        self.check(("out a 2", "rule a = 1 -> a = 2"), "a = 1", [-33])
        self.check(("out a 3", "rule a = 0 -> a = 1", "rule a = 1 -> a = 2"), "a < 2", [-33])

    def test_from_where_the_house_is_now(self):
        self.assertEqual(ask(loaded(*LATCH), ("could", "a = 0"), ("could", "a = 1"), ("set", 1, 1), ("could", "a = 0"),
                             ("could", "a = 1"), ("back",), ("could", "a = 0"), ("again",), ("could", "a = 0"),
                             ("drop", 0), ("could", "a = 0"), ("unedit",), ("could", "a = 0")),
                         [[2], [0], [1, 0, 1], [1], [-33], [0], [0], [0], [0], [-33], [1], [1, 0, 0], [0], [-33]])

    def test_what_never_can_be_may_be_behind_a_change(self):
        self.assertEqual(ask(loaded(*LAMP), ("could", "and dark = 1 lamp = 0"), ("drop", 0),
                             ("could", "and dark = 1 lamp = 0"), ("could", "and dark = 1 lamp = 1"), ("set", 0, 1),
                             ("could", "and dark = 1 lamp = 1")),
                         [[2], [-33], [1], [1, 0, 1], [2, 0, 1, 1, 1], [0], [1, 1, 1]])

    def test_nothing_happens_by_it(self):
        self.assertEqual(ask(loaded(*BITS), ("could", "and a = 1 b = 1"), ("values",), ("could", "and a = 1 b = 1"),
                             ("back",)), [[3], [2, 0, 1, 1, 1], [3, 0, 0, 0], [2, 0, 1, 1, 1], [-6]])


class CouldRead(unittest.TestCase):
    def check(self, condition, answer, thing="in a 1"):
        with self.subTest(condition=condition):
            self.assertEqual(ask_last(loaded(thing, "out b 2"), ("could", condition)), answer)

    def test_100_bytes_and_101(self):
        self.check("a = 1" + " " * 95, [1, 0, 1])
        self.check("a = 1" + " " * 96, [-71])
        self.check(" " * 95 + "a = 1", [1, 0, 1])
        self.check(" " * 96 + "a = 1", [-71])
        self.check("a" + " " * 48 + "=" + " " * 49 + "1", [1, 0, 1])
        self.check("a" + " " * 49 + "=" + " " * 49 + "1", [-71])
        self.check("a = 1" + " " * 125, [-71])
        self.check("x" * 100, [-71])

    def test_bytes_that_no_line_has(self):
        for byte in (0, 9, 10, 13, 31, 127, 128, 160, 255):
            self.check(list(b"a = 1") + [byte], [-71])
            self.check([byte] + list(b"a = 1"), [-71])
            self.check(list(b"a") + [byte] + list(b"= 1"), [-71])
            self.check([byte], [-71])

    def test_bytes_that_a_line_has_but_no_word(self):
        for byte in (33, 37, 63, 64, 91, 96, 123, 126):
            self.check(list(b"a = 1 ") + [byte], [-71])
            self.check(list(b"a") + [byte] + list(b" = 1"), [-71])

    def test_no_words(self):
        self.check("", [-71])
        self.check(" ", [-71])
        self.check(" " * 100, [-71])

    def test_blanks_first_last_and_several_between(self):
        self.check("  not   a  =   0 ", [1, 0, 1])

    def test_more_words_behind_a_condition(self):
        for text in ("a = 1 a", "a = 1 a = 1", "a = 1 b = 1", "not a = 1 b = 1", "and a = 1 b = 1 b = 2", "a = 1 x",
                     "a = 1 ->", "a = 1 -> b = 1", "a = 0 0", "a = 1 not", "or a = 1 b = 1 and"):
            self.check(text, [-71])

    def test_too_few_words(self):
        for text in ("a", "a =", "= 1", "not", "and", "or a = 1", "and a = 1", "not not", "and and a = 1 b = 1", "1"):
            self.check(text, [-71])

    def test_words_that_are_no_condition(self):
        for text in ("never a = 1", "rule a = 1 -> b = 1", "in c 1", "a == 1", "a >= 1", "a = b", "1 = a", "a=1", "A = 1",
                     "NOT a = 1", "a - 1", "a -> 1", "if a = 1", "a = -1", "a = 01", "c = 1", "c = 0", "and a = 1 c = 1",
                     "in = 1", "not = 1"):
            self.check(text, [-71])

    def test_a_digit_that_is_not_one_of_the_values(self):
        for text in ("a = 2", "a < 2", "a > 2", "b = 3", "b > 3", "b < 3", "a = 9", "and a > 1 b = 3"):
            self.check(text, [-71])
        for text in ("a > 1", "b > 2", "b < 0"):
            self.check(text, [-33])

    def test_that_it_is_no_condition_is_told_ahead_of_that_it_never_can_be(self):
        self.check("and a > 1 x", [-71])
        self.check("a > 1 a", [-71])

    def test_a_thing_told_behind_entries_can_be_named(self):
        self.assertEqual(ask(("load", "out a 1\nnever a > 1\nin b 1"), ("could", "b = 1")), [[2], [1, 1, 1]])

    def test_nested_as_deep_as_100_bytes_allow(self):
        self.assertEqual(len("not " * 23 + "a = 0"), 97)
        self.check("not " * 23 + "a = 0", [1, 0, 1])
        self.check("not " * 22 + "a = 0", [0])
        self.check("not " * 23 + "a = 1", [0])
        self.check("not " * 24 + "a = 0", [-71])
        self.check("not " * 25, [-71])

    def test_and_and_or_nested_to_the_left_and_to_the_right(self):
        self.assertEqual(len("or " * 10 + "a > 1 " * 10 + "a = 1"), 95)
        self.check("or " * 10 + "a > 1 " * 10 + "a = 1", [1, 0, 1])
        self.check("or " * 10 + "a = 1 " + "a > 1 " * 10, [1, 0, 1])
        self.check("or " * 10 + "a > 1 " * 11, [-33])
        self.check("or a > 1 " * 10 + "a = 1", [1, 0, 1])
        self.check("or a > 1 " * 10 + "a > 1", [-33])
        self.assertEqual(len("and " * 9 + "a = 1 " * 9 + "b = 2"), 95)
        self.check("and " * 9 + "a = 1 " * 9 + "b = 2", [2, 0, 1, 1, 2])
        self.check("and a = 1 " * 9 + "b = 2", [2, 0, 1, 1, 2])
        self.check("and " * 9 + "a = 1 " * 9 + "a > 1", [-33])
        self.check("and " * 9 + "a = 1 " * 9, [-71])
        self.check("or " * 33, [-71])

    def test_conditions_within_one_another(self):
        for condition, answer in (("and or a = 1 b = 1 c = 1", [2, 0, 1, 2, 1]), ("or and a = 1 b = 1 c = 1", [1, 2, 1]),
                                  ("and a = 1 not or b = 0 c = 0", [3, 0, 1, 1, 1, 2, 1]),
                                  ("not and not and a = 1 b = 1 not c = 1", [1, 2, 1])):
            with self.subTest(condition=condition):
                self.assertEqual(ask_last(loaded(*BITS), ("could", condition)), answer)


class Count(unittest.TestCase):
    def check(self, parts, answer):
        with self.subTest(parts=parts):
            self.assertEqual(ask_last(loaded(*parts), ("count",)), [answer])

    def test_all_states(self):
        self.check(("in a 1",), 2)
        self.check(("in a 3",), 4)
        self.check(("in a 2", "out b 3"), 12)
        self.check(("in a 3", "out b 3", "in c 3"), 64)
        self.check(["out %s 1" % name for name in "abcdef"], 64)

    def test_fewer_states_than_the_house_has(self):
        self.check(LAMP, 2)
        self.check(LATCH, 2)
        self.check(("out a 1", "out b 1") + FALL, 1)
        self.check(("out a 3", "rule a = 2 -> a = 3"), 3)

    def test_a_house_whose_start_settles_elsewhere(self):
        self.check(("out a 3", "rule a = 0 -> a = 1"), 3)
        self.check(("out a 3", "rule a = 0 -> a = 1", "rule a = 1 -> a = 2"), 2)
        self.check(LATCH + ("rule a = 0 -> a = 1",), 1)

    def test_from_now_on(self):
        self.assertEqual(ask(loaded(*LATCH), ("count",), ("set", 0, 1), ("count",), ("back",), ("count",), ("again",),
                             ("count",), ("drop", 0), ("count",), ("drop", 0), ("count",), ("unedit",), ("unedit",),
                             ("count",)),
                         [[2], [2], [1], [1], [0], [2], [0], [1], [1], [3], [0], [4], [1], [0], [1]])

    def test_the_state_itself_is_counted_though_no_event_leads_to_another(self):
        self.assertEqual(ask(loaded("out a 3", "rule not a = 0 -> a = 0"), ("count",), ("set", 0, 3), ("count",)),
                         [[1], [1], [1], [1]])


class Idle(unittest.TestCase):
    def check(self, parts, *numbers):
        with self.subTest(parts=parts):
            self.assertEqual(ask_last(loaded(*parts), ("idle",)), [len(numbers)] + list(numbers))

    def test_none(self):
        self.check(("in a 1",))
        self.check(LAMP)
        self.check(LATCH)

    def test_rules_whose_condition_never_holds(self):
        self.check(LAMP + ("rule dark > 1 -> lamp = 1", "rule and dark = 1 dark = 0 -> lamp = 0"), 2, 3)
        self.check(("out a 1", "rule a > 1 -> a = 0"), 0)

    def test_a_rule_in_whose_stead_another_always_decides(self):
        same = ("rule dark = 1 -> lamp = 1", "rule not dark = 0 -> lamp = 0")
        self.check(LAMP + same, 2, 3)
        self.check(LAMP[:2] + same + LAMP[2:], 1, 2)
        self.check(("in dark 1", "out lamp 1", "out fan 1") + LAMP[2:] + ("rule dark = 1 -> fan = 1",))

    def test_a_rule_that_decides_only_while_it_settles(self):
        self.check(("out a 2", "rule a = 1 -> a = 2"))
        self.check(("out a 1", "rule a = 1 -> a = 0"))
        # From 1 on to 2 and to 3, of which the last alone is one that can come to be.
        self.check(("out a 3", "rule a = 1 -> a = 2", "rule a = 2 -> a = 3"))

    def test_a_rule_that_decides_only_in_the_second_pass_behind_an_event(self):
        # From 0 and 0, where it always ends, no one event sets both a and b.
        around = ("out a 1", "out b 1", "rule and a = 1 b = 0 -> b = 1", "rule and a = 1 b = 1 -> a = 0",
                  "rule and a = 0 b = 1 -> b = 0")
        self.check(around)
        self.assertEqual(ask(loaded(*around), ("count",), ("set", 0, 1), ("values",)), [[2], [1], [3], [2, 0, 0]])
        self.check(around[:2] + ("rule a = 1 -> a = 0", "rule b = 1 -> b = 0", "rule and a = 1 b = 1 -> a = 0"), 2)

    def test_a_rule_that_changes_nothing_where_it_decides(self):
        self.check(("out a 1", "rule a = 1 -> a = 1"))
        self.check(("out a 1", "rule a = 0 -> a = 0"))

    def test_a_rule_that_decided_only_before_the_start_settled(self):
        self.check(LATCH + ("rule and a = 0 b = 0 -> a = 1",), 2)
        # Here an event leads back to where it decides.
        self.check(("out a 3", "rule a = 0 -> a = 1"))

    def test_a_rule_for_states_that_can_not_come_to_be(self):
        self.check(("out a 1", "out b 1") + FALL + ("rule and a = 1 b = 1 -> a = 1",), 2)
        self.check(("out a 1", "out b 1", "out c 1") + FALL + ("rule a = 1 -> c = 1",))

    def test_idle_from_now_on_though_it_was_not_before(self):
        house = loaded(*LATCH, "rule and a = 0 b = 0 -> a = 0")
        self.assertEqual(ask(house, ("idle",), ("set", 1, 1), ("values",), ("idle",), ("back",), ("idle",), ("again",),
                             ("idle",)),
                         [[2], [0], [1], [2, 1, 1], [1, 2], [0], [0], [0], [1, 2]])

    def test_behind_changes(self):
        above = "rule not dark = 0 -> lamp = 1"
        self.assertEqual(ask(loaded(*LAMP), ("idle",), ("add", 0, above), ("idle",), ("move", 0, 2), ("idle",),
                             ("drop", 0), ("idle",), ("unedit",), ("idle",), ("unedit",), ("idle",), ("unedit",),
                             ("idle",)),
                         [[2], [0], [3], [1, 1], [2], [1, 2], [2], [0], [2], [1, 2], [1], [1, 1], [0], [0]])

    def test_a_ban_is_never_among_them(self):
        self.check(("in a 1", "never a > 1", "never a < 0"))
        self.check(LAMP[:2] + ("never dark > 1", "rule dark > 1 -> lamp = 1", "never lamp > 1", "rule dark < 0 -> lamp = 0",
                               "never and dark = 1 dark = 0"), 1, 3)

    def test_rising_and_up_to_16(self):
        self.check(("out a 1",) + ("rule a > 1 -> a = 0",) * 16, *range(16))
        self.check(("out a 1",) + ("rule a = 1 -> a = 1",) * 16, *range(1, 16))

    def test_nothing_changes_by_it(self):
        house = ("load", lines(*LAMP, "rule dark > 1 -> lamp = 1"))
        self.assertEqual(ask(house, ("idle",), ("idle",), ("state",), ("drop", 2), ("idle",)),
                         [[2], [1, 2], [1, 2], [1, 2, 3, 0, 0, 0, 0], [2], [0]])


if __name__ == "__main__":
    unittest.main()
