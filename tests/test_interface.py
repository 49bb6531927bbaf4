"""The interface: the numbers of the calls, the list that is given back, what is handed in."""

import time
import unittest

from houserulesyard.house import answers
from tests.talk import MOST_CALLS, MOST_NUMBERS, NAMES, WITHOUT_HOUSE, as_bytes, ask, ask_last, decoded, encoded, lines

MOST = 4294967295
HOUSE = lines("in dark 1", "out lamp 1", "rule dark = 1 -> lamp = 1")
BAN = "never and dark = 1 lamp = 1"
EVERY_CALL = [
    ("tell",), ("mayload", HOUSE), ("load", HOUSE), ("tell",), ("mayadd", 1, BAN), ("add", 1, BAN),
    ("add", 1, "never dark > 1"), ("look", 0, 1), ("set", 0, 1), ("maydrop", 0), ("drop", 0), ("maymove", 0, 0),
    ("move", 0, 0), ("unedit",), ("unedit",), ("reedit",), ("set", 7, 7), ("tell",), ("set", 0, 0), ("set", 0, 1),
    ("back",), ("again",), ("back",), ("log", 0), ("value", 1), ("values",), ("why", 1), ("unedit",), ("why", 1),
    ("line", 0), ("name", 1), ("find", "lamp"), ("could", "and lamp = 0 dark = 0"), ("could", "lamp > 1"), ("count",),
    ("idle",), ("state",), ("begin",), ("tell",), ("state",),
]


class Numbers(unittest.TestCase):
    def test_calls_and_answers_number_by_number(self):
        calls = [3, 1, 6] + as_bytes("in a 1") + [3, 12, 0, 1, 13, 0, 0, 0, 3]
        self.assertEqual(answers(calls), [1, -61, 1, 1, 8, 7] + as_bytes("in a 1\n") + [1, 0, 2, 0, 0, 1, 0, 1, -61])

    def test_every_call_by_its_number(self):
        text, ban = as_bytes("in a 1\n"), as_bytes("never a > 1")
        start = [1, 7] + text
        loaded = [1, 1]
        entry = as_bytes("never a > 1\n")
        cases = (
            ([0], [1, 0]), ([2, 7] + text, [1, 0]), ([4, 0, 11] + ban, [1, 1]), ([5, 0, 11] + ban, [1, 0]),
            ([5, 0, 0], [1, -71]), ([4, 0, 0], [1, -71]), ([6, 0], [1, -2]), ([7, 0], [1, -2]), ([8, 0, 0], [1, -2]),
            ([9, 0, 0], [1, -2]), ([10], [1, -6]), ([11], [1, -6]), ([12, 0, 1], [1, 0]), ([13, 0, 1], [2, 0, 1]),
            ([3], [8, 7] + text), ([4, 0, 11] + ban + [7, 0], [1, 1, 1, 0]), ([4, 0, 11] + ban + [6, 0], [1, 1, 1, 0]),
            ([4, 0, 11] + ban + [9, 0, 0], [1, 1, 1, 0]), ([4, 0, 11] + ban + [8, 0, 0], [1, 1, 1, 0]),
            ([4, 0, 11] + ban + [3], [1, 1, 20, 19] + text + entry), ([1, 0], [1, -28]), ([2, 0], [1, -28]),
            ([14], [1, -6]), ([12, 0, 1, 14], [1, 0, 1, 0]), ([15], [1, -6]), ([12, 0, 1, 14, 15], [1, 0, 1, 0, 1, 0]),
            ([16, 0], [1, 0]), ([16, 1], [1, -2]), ([17], [2, 1, 0]), ([18, 0], [1, -6]), ([18, 1], [1, -2]),
            ([19, 0], [1, -2]), ([4, 0, 11] + ban + [19, 0], [1, 1, 12, 11] + ban), ([20, 0], [2, 1, 97]),
            ([20, 1], [1, -2]), ([21, 1, 97], [2, 0, 1]), ([21, 0], [1, -2]), ([21, 1, 26], [1, -2]),
            ([22, 5] + as_bytes("a = 1"), [3, 1, 0, 1]), ([22, 5] + as_bytes("a = 0"), [1, 0]),
            ([22, 5] + as_bytes("a > 1"), [1, -33]), ([22, 0], [1, -71]), ([22, 2, 26, 26], [1, -71]), ([23], [1, 2]),
            ([24], [1, 0]), ([25, 0], [1, -2]), ([12, 0, 1, 25, 0], [1, 0, 2, 0, 1]), ([26], [7, 1, 1, 0, 0, 0, 0, 0]),
        )
        for call, answer in cases:
            with self.subTest(call=call):
                self.assertEqual(answers(start + call), loaded + answer)
                self.assertEqual(answers(start + call + start), loaded + answer + loaded)

    def test_ways_stand_behind_1_and_2_without_a_count(self):
        flip = as_bytes(lines("in b 1", "out a 1", "rule and b = 1 a = 0 -> a = 1", "rule and b = 1 a = 1 -> a = 0"))
        ban = as_bytes(lines("in b 1", "in a 2", "never and b = 1 a = 2"))
        self.assertEqual(answers([2, len(flip)] + flip), [3, 1, 0, 1])
        self.assertEqual(answers([2, len(ban)] + ban), [6, 2, 0, 0, 1, 1, 2])

    def test_a_row_may_hold_what_looks_like_calls(self):
        self.assertEqual(answers([1, 3, 3, 3, 3, 3]), [1, -1001, 1, -61])
        self.assertEqual(answers([2, 1300] + [0] * 1300 + [0]), [1, -22, 1, 0])

    def test_what_stands_behind_the_first_number(self):
        text = as_bytes(lines("in a 1", "out b 2", "in c 1", "rule a = 1 -> b = 2", "rule b > 2 -> b = 0"))
        start = [1, len(text)] + text
        for call, answer in (([17], [4, 3, 0, 0, 0]), ([24], [2, 1, 1]), ([23], [1, 8]), ([13, 0, 1], [4, 1, 1, 2, 0]),
                             ([22, 11] + as_bytes("and b=1 c=1"), [1, -71]),
                             ([22, 15] + as_bytes("and b = 1 c = 1"), [5, 2, 1, 1, 2, 1]),
                             ([22, 15] + as_bytes("and a = 1 b = 2"), [3, 1, 0, 1]), ([21, 1, 98], [2, 1, 2]),
                             ([26], [7, 1, 3, 2, 0, 0, 0, 0]), ([20, 2], [2, 1, 99]), ([18, 1], [1, -6]),
                             ([19, 1], [20, 19] + as_bytes("rule b > 2 -> b = 0"))):
            with self.subTest(call=call):
                self.assertEqual(answers(start + call + [16, 2]), [1, 3] + answer + [1, 0])

    def test_the_kinds_of_what_is_given_back(self):
        given = answers(encoded(EVERY_CALL))
        self.assertIs(type(given), list)
        self.assertEqual({type(number) for number in given}, {int})


class NoHouse(unittest.TestCase):
    calls = [("tell",), ("add", 0, "never a = 1"), ("add", MOST, ""), ("mayadd", 0, "x"), ("drop", 0), ("maydrop", MOST),
             ("move", 0, 0), ("maymove", 0, MOST), ("unedit",), ("reedit",), ("set", 0, 0), ("set", MOST, MOST),
             ("look", 0, 0), ("look", 0, MOST), ("back",), ("again",), ("value", 0), ("value", MOST), ("values",),
             ("why", 0), ("why", MOST), ("line", 0), ("line", MOST), ("name", 0), ("name", MOST), ("find", "a"),
             ("find", ""), ("could", "a = 1"), ("could", "x"), ("could", " " * 130), ("count",), ("idle",), ("log", 0),
             ("log", MOST)]

    def test_all_but_four_are_among_them(self):
        self.assertEqual({call[0] for call in self.calls} | set(WITHOUT_HOUSE), set(NAMES))
        self.assertFalse({call[0] for call in self.calls} & set(WITHOUT_HOUSE))

    def test_without_a_house_all_is_refused(self):
        house = ("load", "out a 1")
        for call in self.calls:
            with self.subTest(call=call):
                self.assertEqual(ask_last(call), [-61])
                self.assertEqual(ask_last(("begin",), call), [-61])
                self.assertEqual(ask_last(house, ("set", 0, 1), ("begin",), call), [-61])
                self.assertEqual(ask_last(("load", "x"), call), [-61])
                self.assertEqual(ask_last(("mayload", "out a 1"), call), [-61])
                self.assertNotEqual(ask_last(house, call), [-61])
                self.assertEqual(ask(call, house, ("values",)), [[-61], [1], [1, 0]])

    def test_state_answers_without_a_house_too(self):
        self.assertEqual(answers([26]), [7, 0, 0, 0, 0, 0, 0, 0])
        self.assertEqual(answers([0, 26, 26]), [1, 0] + [7, 0, 0, 0, 0, 0, 0, 0] * 2)


class InGoodTime(unittest.TestCase):
    """So much as is ever handed in, on houses that give much to do."""

    seconds = 15
    bits = lines(*["out %s 1" % name for name in "abcdef"])
    # Never holds, and all of its parts have to be asked.
    long_rule = "rule " + "or " * 8 + "a > 1 " * 9 + "-> a = 1"

    def in_good_time(self, calls):
        numbers = encoded(calls)
        self.assertLessEqual(len(calls), MOST_CALLS)
        self.assertLessEqual(len(numbers), MOST_NUMBERS)
        begun = time.process_time()
        given = decoded(answers(numbers))
        self.assertLess(time.process_time() - begun, self.seconds)
        return given, numbers

    def test_300_calls(self):
        text = as_bytes("in a 1")
        self.assertEqual(answers([1, 6] + text + [12, 0, 1] * 299), [1, 1] + [1, 0] * 299)

    def test_300_calls_of_each_that_goes_through_all_states(self):
        start = [("load", self.bits)] + [("add", 0, self.long_rule)] * 16
        for call, answer in ((("count",), [64]), (("idle",), [16] + list(range(16))), (("maymove", 0, 15), [0]),
                             (("could", "or " * 8 + "a > 1 " * 9), [-33]), (("move", 0, 15), [15])):
            with self.subTest(call=call):
                given = self.in_good_time(start + [call] * (MOST_CALLS - len(start)))[0]
                self.assertEqual(given[len(start):], [answer] * (MOST_CALLS - len(start)))

    def test_300_calls_that_settle_by_many_passes(self):
        # A counter of six bits, which goes on by one with each pass till all are 1.
        names, parts = "abcdef", []
        for k, name in enumerate(names):
            below = ["%s = 1" % lower for lower in names[:k]]
            parts.append("rule %s -> %s = 1" % (" ".join(["and"] * k + below + [name + " = 0"]), name))
            rest = "not " + "and " * (5 - k) + " ".join(["%s = 1" % n for n in names[k:]])
            if k < 5:
                parts.append("rule and %s %s -> %s = 0" % (rest, " ".join(["and"] * k + below + [name + " = 1"]), name))
        house = ("load", self.bits + lines(*parts))
        calls = [("set", 5, 0), ("idle",), ("count",), ("why", 5), ("could", "f = 0"), ("back",)] * 49
        given = self.in_good_time([house] + calls)[0]
        self.assertEqual(given, [[6]] + [[32], [0], [1], [-6], [-33], [0]] * 49)

    def test_30000_numbers(self):
        text = self.bits + lines(*[self.long_rule] * 12)
        self.assertGreater(len(text), 1100)
        padded = text + "never a > 1".ljust(1199 - len(text))
        given, numbers = self.in_good_time([("mayload", padded)] * 24 + [("load", text)])
        self.assertEqual(given, [[0]] * 24 + [[6]])
        self.assertGreater(len(numbers), 29900)
        given, numbers = self.in_good_time([("load", self.bits)] + [("mayadd", 0, self.long_rule.ljust(100))] * 290)
        self.assertEqual(given, [[6]] + [[0]] * 290)
        self.assertGreater(len(numbers), 29900)


class HandedIn(unittest.TestCase):
    def test_every_call_is_among_those_tried_here(self):
        self.assertEqual({call[0] for call in EVERY_CALL}, set(NAMES))

    def test_what_is_handed_in_stays_as_it_was(self):
        calls = encoded(EVERY_CALL)
        kept = list(calls)
        answers(calls)
        self.assertEqual(calls, kept)

    def test_a_second_time_the_same_is_answered(self):
        calls = encoded(EVERY_CALL)
        first = answers(calls)
        copy = list(first)
        second = answers(calls)
        self.assertEqual(second, first)
        first.clear()
        self.assertEqual(answers(calls), copy)

    def test_nothing_is_kept_from_one_time_to_the_next(self):
        answers(encoded([("load", HOUSE), ("set", 0, 1), ("drop", 0)]))
        self.assertEqual(decoded(answers(encoded([("tell",), ("unedit",)]))), [[-61], [-61]])
        self.assertEqual(decoded(answers(encoded([("load", HOUSE), ("unedit",), ("look", 1, 0)]))),
                         [[2], [-6], [0, 0, 0]])

    def test_a_list_that_can_not_be_changed_is_not_tried_to_be(self):
        class Frozen(list):
            def refuse(self, *args):
                raise AssertionError("changed")

            append = extend = insert = pop = remove = clear = sort = reverse = refuse
            __setitem__ = __delitem__ = __iadd__ = __imul__ = refuse

        calls = encoded(EVERY_CALL)
        self.assertEqual(answers(Frozen(calls)), answers(calls))


class NothingChanges(unittest.TestCase):
    """What's refused changes nothing, nor does what only asks: the calls behind it answer as without it."""

    before = [("load", HOUSE), ("add", 1, "never dark > 1"), ("add", 0, "never lamp > 1"), ("set", 0, 1), ("unedit",),
              ("set", 1, 0)]
    behind = [("state",), ("values",), ("log", 0), ("back",), ("again",), ("values",), ("look", 0, 0), ("look", 1, 0),
              ("mayadd", 0, BAN), ("reedit",), ("tell",), ("unedit",), ("unedit",), ("unedit",), ("tell",),
              ("look", 1, 0), ("reedit",), ("reedit",), ("reedit",), ("tell",)]
    quiet = [("mayload", HOUSE), ("mayload", "in z 1"), ("load", "x"), ("load", ""), ("load", " " * 1201),
             ("load", "in a 1\nnever a = 0"), ("load", "out a 1\nrule a = 0 -> a = 1\nrule a = 1 -> a = 0"), ("tell",),
             ("add", 9, BAN), ("add", 0, "x"), ("add", 0, BAN), ("add", 0, "rule lamp = 1 -> lamp = 0"),
             ("mayadd", 9, BAN), ("mayadd", 0, "x"), ("mayadd", 0, BAN), ("mayadd", 0, "never dark > 1"),
             ("mayadd", 0, "rule lamp = 1 -> lamp = 0"), ("drop", 2), ("maydrop", 2), ("maydrop", 0), ("move", 0, 2),
             ("move", 2, 0), ("maymove", 0, 2), ("maymove", 0, 1), ("set", 2, 0), ("set", 0, 2), ("look", 2, 0),
             ("look", 0, 2), ("look", 0, 0), ("look", 1, 0), ("again",), ("value", 0), ("value", 2), ("values",),
             ("why", 0), ("why", 1), ("why", 2), ("line", 0), ("line", 2), ("name", 0), ("name", 2), ("find", "lamp"),
             ("find", "lam"), ("could", "dark = 0"), ("could", "dark > 1"), ("could", "dark"), ("count",), ("idle",),
             ("log", 0), ("log", 9), ("state",)]

    def answered(self, between):
        given = decoded(answers(encoded(self.before + between + self.behind)))
        return given[len(self.before):-len(self.behind)], given[-len(self.behind):]

    def test_each_alone_and_all_together(self):
        plain = self.answered([])[1]
        for call in self.quiet:
            with self.subTest(call=call):
                self.assertEqual(self.answered([call])[1], plain)
                self.assertEqual(self.answered([call])[0], self.answered([call, call])[0][1:])
        self.assertEqual(self.answered(self.quiet)[1], plain)

    def test_those_that_are_refused_are(self):
        for call in self.quiet:
            if call[0] in ("load", "add", "drop", "move", "set", "again"):
                with self.subTest(call=call):
                    self.assertLess(self.answered([call])[0][0][0], 0)


if __name__ == "__main__":
    unittest.main()
