"""Point 1: begin, load and mayload, and what they leave of the house that was there."""

import unittest

from tests.talk import ask, lines, told

FLIP = lines("out a 1", "rule a = 0 -> a = 1", "rule a = 1 -> a = 0")
REFUSED = (("x", -1001), ("", -28), (" " * 1201, -22), (FLIP, -41), ("in b 1\nnever b = 1", -42),
           (lines("in a 3", "in b 3", "in c 3", "in d 1"), -28))


class Loading(unittest.TestCase):
    def test_begin(self):
        self.assertEqual(ask(("begin",), ("begin",), ("tell",), ("load", "in a 1"), ("tell",), ("begin",), ("tell",),
                             ("begin",)),
                         [[0], [0], [-61], [1], told("in a 1"), [0], [-61], [0]])

    def test_load_answers_how_many_things(self):
        for count in range(1, 7):
            parts = ["in %s 1" % name for name in "abcdef"[:count]]
            self.assertEqual(ask(("load", lines(*parts)), ("mayload", lines(*parts))), [[count], [0]])

    def test_the_refusals(self):
        for text, refusal in REFUSED:
            with self.subTest(text=text):
                self.assertEqual(ask(("load", text), ("tell",)), [[refusal], [-61]])

    def test_mayload_is_refused_likewise_or_tells_how_it_is_judged(self):
        told_for = {-41: [1], -42: [2, 0, 0, 1]}
        for text, refusal in REFUSED:
            with self.subTest(text=text):
                self.assertEqual(ask(("mayload", text)), [told_for.get(refusal, [refusal])])

    def test_mayload_loads_nothing(self):
        self.assertEqual(ask(("mayload", "in a 1"), ("tell",), ("load", "in b 1"), ("mayload", "in a 1"), ("tell",)),
                         [[0], [-61], [1], [0], told("in b 1")])

    def test_a_refused_load_leaves_the_house_and_its_state(self):
        for text, refusal in REFUSED:
            with self.subTest(text=text):
                self.assertEqual(ask(("load", "in a 3\nin b 1"), ("set", 0, 2), ("load", text), ("tell",),
                                     ("look", 1, 1)),
                                 [[2], [0], [refusal], told("in a 3", "in b 1"), [0, 2, 1]])

    def test_a_load_takes_the_place_of_the_house_and_its_state(self):
        self.assertEqual(ask(("load", "in a 3\nin b 1"), ("set", 0, 2), ("load", "in c 2"), ("tell",), ("look", 0, 0),
                             ("set", 1, 0), ("load", "in a 3\nin b 1"), ("look", 1, 1)),
                         [[2], [0], [1], told("in c 2"), [0, 0], [-2], [2], [0, 0, 1]])

    def test_a_load_is_judged_from_0_whatever_the_state_is(self):
        latch = lines("out a 1", "out b 1", "rule b = 1 -> a = 1", "rule a = 1 -> b = 1")
        banned = latch + "never a = 0\n"
        self.assertEqual(ask(("load", latch), ("set", 0, 1), ("mayload", banned), ("load", banned), ("look", 0, 0),
                             ("mayadd", 2, "never a = 0")), [[2], [1], [2, 2], [-42], [1, 1, 1], [0]])

    def test_begin_forgets_the_state(self):
        self.assertEqual(ask(("load", "in a 1"), ("set", 0, 1), ("begin",), ("load", "in a 1\nin b 1"), ("look", 1, 1)),
                         [[1], [0], [0], [2], [0, 0, 1]])


if __name__ == "__main__":
    unittest.main()
