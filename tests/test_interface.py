"""The interface: the numbers of the calls, the list that is given back, what is handed in."""

import unittest

from houserulesyard.house import answers
from tests.talk import NAMES, as_bytes, decoded, encoded, lines

HOUSE = lines("in dark 1", "out lamp 1", "rule dark = 1 -> lamp = 1")
BAN = "never and dark = 1 lamp = 1"
EVERY_CALL = [
    ("tell",), ("mayload", HOUSE), ("load", HOUSE), ("tell",), ("mayadd", 1, BAN), ("add", 1, BAN),
    ("add", 1, "never dark > 1"), ("look", 0, 1), ("set", 0, 1), ("maydrop", 0), ("drop", 0), ("maymove", 0, 0),
    ("move", 0, 0), ("unedit",), ("unedit",), ("reedit",), ("set", 7, 7), ("tell",), ("begin",), ("tell",),
]


class Numbers(unittest.TestCase):
    def test_calls_and_answers_number_by_number(self):
        calls = [3, 1, 6] + as_bytes("in a 1") + [3, 12, 0, 1, 13, 0, 0, 0, 3]
        self.assertEqual(answers(calls), [1, -61, 1, 1, 8, 7] + as_bytes("in a 1\n") + [1, 0, 2, 0, 0, 1, 0, 1, -61])

    def test_every_call_by_its_number(self):
        text, ban = as_bytes("in a 1\n"), as_bytes("never a > 1")
        start = [1, 7] + text
        loaded = [1, 1]
        entry = as_bytes("never a > 1\n")
        cases = (
            ([0], [1, 0]), ([2, 7] + text, [1, 0]), ([4, 0, 11] + ban, [1, 1]), ([5, 0, 11] + ban, [1, 0]),
            ([5, 0, 0], [1, -71]), ([4, 0, 0], [1, -71]), ([6, 0], [1, -2]), ([7, 0], [1, -2]), ([8, 0, 0], [1, -2]),
            ([9, 0, 0], [1, -2]), ([10], [1, -6]), ([11], [1, -6]), ([12, 0, 1], [1, 0]), ([13, 0, 1], [2, 0, 1]),
            ([3], [8, 7] + text), ([4, 0, 11] + ban + [7, 0], [1, 1, 1, 0]), ([4, 0, 11] + ban + [6, 0], [1, 1, 1, 0]),
            ([4, 0, 11] + ban + [9, 0, 0], [1, 1, 1, 0]), ([4, 0, 11] + ban + [8, 0, 0], [1, 1, 1, 0]),
            ([4, 0, 11] + ban + [3], [1, 1, 20, 19] + text + entry), ([1, 0], [1, -28]), ([2, 0], [1, -28]),
        )
        for call, answer in cases:
            with self.subTest(call=call):
                self.assertEqual(answers(start + call), loaded + answer)
                self.assertEqual(answers(start + call + start), loaded + answer + loaded)

    def test_ways_stand_behind_1_and_2_without_a_count(self):
        flip = as_bytes(lines("in b 1", "out a 1", "rule and b = 1 a = 0 -> a = 1", "rule and b = 1 a = 1 -> a = 0"))
        ban = as_bytes(lines("in b 1", "in a 2", "never and b = 1 a = 2"))
        self.assertEqual(answers([2, len(flip)] + flip), [3, 1, 0, 1])
        self.assertEqual(answers([2, len(ban)] + ban), [6, 2, 0, 0, 1, 1, 2])

    def test_a_row_may_hold_what_looks_like_calls(self):
        self.assertEqual(answers([1, 3, 3, 3, 3, 3]), [1, -1001, 1, -61])
        self.assertEqual(answers([2, 1300] + [0] * 1300 + [0]), [1, -22, 1, 0])

    def test_300_calls(self):
        text = as_bytes("in a 1")
        self.assertEqual(answers([1, 6] + text + [12, 0, 1] * 299), [1, 1] + [1, 0] * 299)

    def test_the_kinds_of_what_is_given_back(self):
        given = answers(encoded(EVERY_CALL))
        self.assertIs(type(given), list)
        self.assertEqual({type(number) for number in given}, {int})


class HandedIn(unittest.TestCase):
    def test_every_call_is_among_those_tried_here(self):
        self.assertEqual({call[0] for call in EVERY_CALL}, set(NAMES))

    def test_what_is_handed_in_stays_as_it_was(self):
        calls = encoded(EVERY_CALL)
        kept = list(calls)
        answers(calls)
        self.assertEqual(calls, kept)

    def test_a_second_time_the_same_is_answered(self):
        calls = encoded(EVERY_CALL)
        first = answers(calls)
        copy = list(first)
        second = answers(calls)
        self.assertEqual(second, first)
        first.clear()
        self.assertEqual(answers(calls), copy)

    def test_nothing_is_kept_from_one_time_to_the_next(self):
        answers(encoded([("load", HOUSE), ("set", 0, 1), ("drop", 0)]))
        self.assertEqual(decoded(answers(encoded([("tell",), ("unedit",)]))), [[-61], [-61]])
        self.assertEqual(decoded(answers(encoded([("load", HOUSE), ("unedit",), ("look", 1, 0)]))),
                         [[2], [-6], [0, 0, 0]])

    def test_a_list_that_can_not_be_changed_is_not_tried_to_be(self):
        class Frozen(list):
            def refuse(self, *args):
                raise AssertionError("changed")

            append = extend = insert = pop = remove = clear = sort = reverse = refuse
            __setitem__ = __delitem__ = __iadd__ = __imul__ = refuse

        calls = encoded(EVERY_CALL)
        self.assertEqual(answers(Frozen(calls)), answers(calls))


class NothingChanges(unittest.TestCase):
    """What's refused changes nothing, nor does what only asks: the calls behind it answer as without it."""

    before = [("load", HOUSE), ("add", 1, "never dark > 1"), ("add", 0, "never lamp > 1"), ("set", 0, 1), ("unedit",),
              ("set", 1, 0)]
    behind = [("look", 0, 0), ("look", 1, 0), ("mayadd", 0, BAN), ("reedit",), ("tell",), ("unedit",), ("unedit",),
              ("unedit",), ("tell",), ("look", 1, 0), ("reedit",), ("reedit",), ("reedit",), ("tell",)]
    quiet = [("mayload", HOUSE), ("mayload", "in z 1"), ("load", "x"), ("load", ""), ("load", " " * 1201),
             ("load", "in a 1\nnever a = 0"), ("load", "out a 1\nrule a = 0 -> a = 1\nrule a = 1 -> a = 0"), ("tell",),
             ("add", 9, BAN), ("add", 0, "x"), ("add", 0, BAN), ("add", 0, "rule lamp = 1 -> lamp = 0"),
             ("mayadd", 9, BAN), ("mayadd", 0, "x"), ("mayadd", 0, BAN), ("mayadd", 0, "never dark > 1"),
             ("mayadd", 0, "rule lamp = 1 -> lamp = 0"), ("drop", 2), ("maydrop", 2), ("maydrop", 0), ("move", 0, 2),
             ("move", 2, 0), ("maymove", 0, 2), ("maymove", 0, 1), ("set", 2, 0), ("set", 0, 2), ("look", 2, 0),
             ("look", 0, 2), ("look", 0, 0), ("look", 1, 0)]

    def answered(self, between):
        given = decoded(answers(encoded(self.before + between + self.behind)))
        return given[len(self.before):-len(self.behind)], given[-len(self.behind):]

    def test_each_alone_and_all_together(self):
        plain = self.answered([])[1]
        for call in self.quiet:
            with self.subTest(call=call):
                self.assertEqual(self.answered([call])[1], plain)
                self.assertEqual(self.answered([call])[0], self.answered([call, call])[0][1:])
        self.assertEqual(self.answered(self.quiet)[1], plain)

    def test_those_that_are_refused_are(self):
        for call in self.quiet:
            if call[0] in ("load", "add", "drop", "move", "set"):
                with self.subTest(call=call):
                    self.assertLess(self.answered([call])[0][0][0], 0)


if __name__ == "__main__":
    unittest.main()
