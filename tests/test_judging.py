"""Point 1, how a house is judged: by mayload with the way, by load with the refusal."""

import unittest

from tests.talk import ask, ask_last, lines

# a goes on for ever while b is 1.
FLIP_WHILE_B = ("rule and b = 1 a = 0 -> a = 1", "rule and b = 1 a = 1 -> a = 0")
FLIP_WHILE_BC = ("rule and and b = 1 c = 1 a = 0 -> a = 1", "rule and and b = 1 c = 1 a = 1 -> a = 0")


class JudgeCase(unittest.TestCase):
    def check(self, parts, answer):
        text = lines(*parts)
        with self.subTest(text=text):
            self.assertEqual(ask_last(("mayload", text)), answer)
            things = [part for part in parts if part.split()[0] in ("in", "out")]
            loaded = {0: len(things), 1: -41, 2: -42}[answer[0]]
            there = -61 if loaded < 0 else len(text)
            given = ask(("load", text), ("tell",))
            self.assertEqual(given[0], [loaded])
            self.assertEqual(given[1][0], there)


class Settling(JudgeCase):
    def test_it_goes_on_for_ever_at_once(self):
        self.check(("out a 1", "rule a = 0 -> a = 1", "rule a = 1 -> a = 0"), [1])
        self.check(("out a 2", "rule a = 0 -> a = 1", "rule a = 1 -> a = 2", "rule a = 2 -> a = 0"), [1])
        self.check(("out a 1", "out b 1", "rule a = 0 -> b = 1", "rule b = 1 -> a = 1", "rule a = 1 -> b = 0",
                    "rule b = 0 -> a = 0"), [1])

    def test_it_comes_into_a_round_that_it_did_not_begin_in(self):
        self.check(("out a 3", "rule a = 0 -> a = 1", "rule a = 1 -> a = 2", "rule a = 2 -> a = 1"), [1])

    def test_behind_one_event(self):
        self.check(("in b 1", "out a 1") + FLIP_WHILE_B, [1, 0, 1])
        self.check(("out a 1", "in b 1") + FLIP_WHILE_B, [1, 1, 1])
        self.check(("out a 3", "rule a = 2 -> a = 3", "rule a = 3 -> a = 2"), [1, 0, 2])

    def test_behind_several(self):
        self.check(("in b 1", "in c 1", "out a 1") + FLIP_WHILE_BC, [1, 0, 1, 1, 1])
        self.check(("in c 1", "out a 1", "in b 1") + FLIP_WHILE_BC, [1, 0, 1, 2, 1])

    def test_all_things_get_their_values_at_once(self):
        # One behind the other they'd come to the same; at once they change their places for ever.
        swap = ("rule a = 0 -> b = 0", "rule a = 1 -> b = 1", "rule b = 0 -> a = 0", "rule b = 1 -> a = 1")
        self.check(("out a 1", "out b 1") + swap, [1, 0, 1])

    def test_the_first_rule_that_holds_decides(self):
        self.check(("out a 1", "rule a = 1 -> a = 0", "rule a = 0 -> a = 0", "rule a = 0 -> a = 1"), [0])
        self.check(("out a 1", "rule a = 1 -> a = 0", "rule a = 0 -> a = 1", "rule a = 0 -> a = 0"), [1])
        self.check(("out a 1", "rule a > 1 -> a = 0", "rule a = 0 -> a = 1", "never a = 0"), [0])

    def test_a_value_that_is_set_by_hand_counts_too(self):
        self.check(("out a 2", "rule a = 1 -> a = 2", "rule a = 2 -> a = 1"), [1, 0, 1])


class Bans(JudgeCase):
    def test_broken_at_once(self):
        self.check(("in a 1", "never a = 0"), [2, 0])
        self.check(("out a 1", "rule a = 0 -> a = 1", "never a = 1"), [2, 1])

    def test_behind_one_event(self):
        self.check(("in a 1", "never a = 1"), [2, 0, 0, 1])
        self.check(("in b 1", "out a 1", "rule b = 1 -> a = 1", "rule b = 0 -> a = 0", "never a = 1"), [2, 2, 0, 1])

    def test_behind_several(self):
        self.check(("in a 1", "in b 1", "never and a = 1 b = 1"), [2, 0, 0, 1, 1, 1])
        self.check(("in a 1", "in b 2", "in c 3", "never and and a = 1 b = 2 c > 1"), [2, 0, 0, 1, 1, 2, 2, 2])

    def test_of_several_ways_of_a_length_the_lesser_thing_then_the_lesser_value(self):
        self.check(("in a 3", "never a > 1"), [2, 0, 0, 2])
        self.check(("in a 1", "in b 1", "never or b = 1 a = 1"), [2, 0, 0, 1])
        three = ("in a 1", "in b 1", "in c 1")
        self.check(three + ("never and c = 1 or a = 1 b = 1",), [2, 0, 0, 1, 2, 1])
        self.check(three + ("never and c = 1 b = 1", "never and a = 1 c = 1"), [2, 1, 0, 1, 2, 1])

    def test_the_shorter_way_though_its_events_are_greater(self):
        self.check(("in a 1", "in b 1", "in c 1", "never or and a = 1 b = 1 c = 1"), [2, 0, 2, 1])
        self.check(("in a 1", "in b 1", "in c 1", "never and a = 1 b = 1", "never c = 1"), [2, 1, 2, 1])

    def test_the_first_of_several_bans_that_are_broken_there(self):
        self.check(("in a 1", "never a > 1", "never a = 1", "never a > 0"), [2, 1, 0, 1])
        self.check(("in a 1", "out b 1", "rule a = 1 -> b = 1", "never b > 1", "rule a = 0 -> b = 0",
                    "never and a = 1 b = 1", "never a = 1"), [2, 3, 0, 1])

    def test_a_state_that_only_passes_go_through_breaks_no_ban(self):
        self.check(("out a 1", "rule a = 1 -> a = 0", "never a = 1"), [0])
        self.check(("out a 2", "rule a = 1 -> a = 2", "never a = 1"), [0])

    def test_ways_go_on_behind_a_state_that_breaks_a_ban(self):
        # What goes on for ever is reached through a state that breaks a ban, and is told all the same.
        self.check(("in b 1", "in c 1", "out a 1", "never b = 1", "never c = 1") + FLIP_WHILE_BC, [1, 0, 1, 1, 1])


class Both(JudgeCase):
    def test_that_it_does_not_settle_is_told_ahead_of_a_ban(self):
        self.check(("in b 1", "in c 1", "out a 1", "never b = 0") + FLIP_WHILE_BC, [1, 0, 1, 1, 1])
        self.check(("in c 1", "in b 1", "out a 1", "never c = 1") + FLIP_WHILE_B, [1, 1, 1])
        self.check(("out a 1", "rule a = 0 -> a = 1", "rule a = 1 -> a = 0", "never a = 0"), [1])


class Start(JudgeCase):
    def test_a_house_whose_start_settles_elsewhere(self):
        text = ("out a 3", "rule a = 0 -> a = 1", "rule a = 1 -> a = 2", "never a < 2")
        self.check(text, [0])
        self.assertEqual(ask(("load", lines(*text)), ("look", 0, 0), ("look", 0, 3)), [[1], [2, 2], [0, 3]])

    def test_what_can_come_to_be_only_before_it_settled_is_not_counted(self):
        # From (0, 0) it goes to (1, 1), and stays there whatever is set.
        latch = ("out a 1", "out b 1", "rule b = 1 -> a = 1", "rule a = 1 -> b = 1")
        start = ("rule and a = 0 b = 0 -> a = 1",)
        self.check(latch + start + ("never a = 0",), [0])
        self.check(latch + ("never a = 0",), [2, 2])
        self.check(latch + ("never a = 1",), [2, 2, 0, 1])

    def test_states_that_no_way_leads_to_are_not_counted(self):
        # a and b fall back to 0 unless both are 1, and one event sets one thing.
        fall = ("out a 1", "out b 1", "rule b = 0 -> a = 0", "rule a = 0 -> b = 0")
        self.check(fall + ("never a = 1",), [0])
        self.check(fall[:3] + ("never a = 1",), [2, 1, 1, 1, 0, 1])


class Long(JudgeCase):
    def test_a_way_through_every_thing(self):
        things = tuple("in %s 1" % name for name in "abcdef")
        ban = "never and and and and and a = 1 b = 1 c = 1 d = 1 e = 1 f = 1"
        self.check(things + (ban,), [2, 0, 0, 1, 1, 1, 2, 1, 3, 1, 4, 1, 5, 1])

    def test_a_lesser_value_that_passes_bring_to_the_same(self):
        # b goes up with a step by step, and falls to 0 where it's too far ahead.
        steps = ("in a 3", "out b 3", "rule and a = 1 b = 0 -> b = 1", "rule and a = 2 b = 1 -> b = 2",
                 "rule and a = 3 b = 2 -> b = 3", "rule and a < 1 b > 0 -> b = 0", "rule and a < 2 b > 1 -> b = 0",
                 "rule and a < 3 b > 2 -> b = 0")
        self.check(steps + ("never b = 3",), [2, 6, 0, 3, 1, 2])
        self.assertEqual(ask(("load", lines(*steps)), ("set", 0, 1), ("set", 0, 2), ("look", 0, 3), ("look", 0, 1)),
                         [[2], [1], [1], [1, 3, 3], [2, 1, 1]])

    def test_passes_through_all_of_64_states(self):
        # A counter of six bits, which goes on by one with each pass till all are 1.
        names = "abcdef"
        parts = ["out %s 1" % name for name in names]
        for k, name in enumerate(names):
            below = ["%s = 1" % lower for lower in names[:k]]
            up = below + [name + " = 0"]
            parts.append("rule " + "and " * (len(up) - 1) + " ".join(up) + " -> %s = 1" % name)
            if k < 5:
                down = below + [name + " = 1"]
                rest = "not " + "and " * (5 - k) + " ".join(["%s = 1" % n for n in names[k:]])
                parts.append("rule and " + rest + " " + "and " * (len(down) - 1) + " ".join(down) + " -> %s = 0" % name)
        self.assertLessEqual(max(len(part) for part in parts), 100)
        text = lines(*parts)
        self.assertEqual(ask(("load", text), ("look", 0, 0), ("look", 5, 0)),
                         [[6], [1, 1, 1, 1, 1, 1, 1], [32, 1, 1, 1, 1, 1, 1]])


if __name__ == "__main__":
    unittest.main()
