"""Point 2: line, name and find."""

import unittest

from tests.talk import ask, ask_last, counted, loaded

MOST = 4294967295
WRITTEN = ("load", "  in   dark 1\nnever   dark  >   1 \nout lamp 3\n rule not   dark = 0   ->  lamp = 3  ")
BAN, RULE = "never dark > 1", "rule not dark = 0 -> lamp = 3"
NAMES = ("a", "ab", "abc", "bc", "b", "abcdefgh")


class Line(unittest.TestCase):
    def test_told_with_one_blank_between(self):
        self.assertEqual(ask(WRITTEN, ("line", 0), ("line", 1)), [[2], counted(BAN), counted(RULE)])
        self.assertEqual(ask_last(WRITTEN, ("line", 0)),
                         [14, 110, 101, 118, 101, 114, 32, 100, 97, 114, 107, 32, 62, 32, 49])

    def test_one_that_was_added_with_several_blanks(self):
        self.assertEqual(ask(loaded("out a 1"), ("add", 0, "   never  a   >  1 "), ("line", 0)),
                         [[1], [1], counted("never a > 1")])

    def test_the_first_the_last_and_the_one_behind_it(self):
        self.assertEqual(ask(WRITTEN, ("line", 2), ("line", MOST)), [[2], [-2], [-2]])
        self.assertEqual(ask(loaded("out a 1"), ("line", 0), ("line", 1)), [[1], [-2], [-2]])
        parts = ["rule a = %d -> a = %d" % (k // 4, k // 4) for k in range(16)]
        self.assertEqual(ask(loaded("out a 3", *parts), *[("line", k) for k in range(17)]),
                         [[1]] + [counted(part) for part in parts] + [[-2]])

    def test_things_are_no_entries(self):
        self.assertEqual(ask(loaded("out a 1", "out b 1", "never a > 1"), ("line", 0), ("line", 1), ("line", 2)),
                         [[2], counted("never a > 1"), [-2], [-2]])

    def test_behind_changes(self):
        self.assertEqual(ask(WRITTEN, ("move", 0, 1), ("line", 0), ("line", 1), ("drop", 0), ("line", 0), ("line", 1),
                             ("unedit",), ("line", 0), ("unedit",), ("line", 0), ("add", 1, "never lamp > 3"),
                             ("line", 1), ("line", 2), ("line", 3)),
                         [[2], [1], counted(RULE), counted(BAN), [1], counted(BAN), [-2],
                          [1], counted(RULE), [0], counted(BAN), [3],
                          counted("never lamp > 3"), counted(RULE), [-2]])

    def test_a_line_of_100_bytes(self):
        line = "never " + "not " * 22 + "bb = 0"
        self.assertEqual(len(line), 100)
        self.assertEqual(ask(loaded("out bb 1", "rule bb = 0 -> bb = 1"), ("mayadd", 0, line), ("add", 1, line),
                             ("line", 1)), [[1], [0], [2], counted(line)])


class Name(unittest.TestCase):
    def test_name(self):
        self.assertEqual(ask(WRITTEN, ("name", 0), ("name", 1)), [[2], [4, 100, 97, 114, 107], [4, 108, 97, 109, 112]])

    def test_the_first_the_last_and_the_one_behind_it(self):
        self.assertEqual(ask(WRITTEN, ("name", 2), ("name", MOST)), [[2], [-2], [-2]])
        self.assertEqual(ask(loaded(*["in %s 1" % name for name in NAMES]), *[("name", k) for k in range(7)]),
                         [[6]] + [counted(name) for name in NAMES] + [[-2]])

    def test_another_house_has_other_names(self):
        self.assertEqual(ask(WRITTEN, ("load", "x"), ("name", 1), loaded("out z 1"), ("name", 0), ("name", 1)),
                         [[2], [-1001], counted("lamp"), [1], counted("z"), [-2]])


class Find(unittest.TestCase):
    def test_which_and_its_greatest_value(self):
        self.assertEqual(ask(WRITTEN, ("find", "dark"), ("find", "lamp")), [[2], [0, 1], [1, 3]])
        self.assertEqual(ask(loaded("in p 1", "out q 2", "in r 3"), ("find", "r"), ("find", "q"), ("find", "p")),
                         [[3], [2, 3], [1, 2], [0, 1]])

    def test_a_name_that_is_a_part_of_another(self):
        self.assertEqual(ask(loaded(*["in %s 1" % name for name in NAMES]), *[("find", name) for name in NAMES]),
                         [[6]] + [[k, 1] for k in range(6)])
        self.assertEqual(ask(loaded("in abc 1", "in bcd 1"), *[("find", name) for name in (
            "a", "ab", "b", "bc", "c", "cd", "abcd", "abcbcd", "abc")]), [[2]] + [[-2]] * 8 + [[0, 1]])

    def test_names_that_no_thing_has(self):
        for name in ("", " ", "lam", "lampe", " lamp", "lamp ", "  lamp  ", "lamp\n", "Lamp", "LAMP", "dark lamp", "la mp",
                     "lamp lamp", "l", "in", "out", "rule", "never", "and", "not", "1", "3", "?", "l?mp", "out lamp 3",
                     "z" * 30, "lamp" + " " * 26):
            with self.subTest(name=name):
                self.assertEqual(ask(WRITTEN, ("find", name), ("find", "lamp")), [[2], [-2], [1, 3]])

    def test_other_bytes(self):
        for byte in (0, 9, 10, 13, 31, 33, 63, 64, 96, 123, 126, 127, 128, 160, 255):
            for name in ([byte], [byte] + list(b"lamp"), list(b"lamp") + [byte], list(b"la") + [byte] + list(b"mp"),
                         list(b"l") + [byte] + list(b"mp"), [byte] * 4, [byte] * 30):
                with self.subTest(name=name):
                    self.assertEqual(ask(WRITTEN, ("find", name)), [[2], [-2]])

    def test_another_house_has_other_things(self):
        self.assertEqual(ask(WRITTEN, loaded("in lamp 1"), ("find", "lamp"), ("find", "dark")), [[2], [1], [0, 1], [-2]])


if __name__ == "__main__":
    unittest.main()
