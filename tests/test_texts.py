"""Point 1, what a text says: its size, its lines, things, entries, conditions."""

import unittest

from tests.talk import as_bytes, ask, ask_last, lines, told

BITS = ["out %s 1" % name for name in "abcdef"]


def padded(line, length):
    return line + " " * (length - len(line))


class TextCase(unittest.TestCase):
    def check(self, text, answer):
        """load and mayload alike take or refuse a text (which is fine where it's taken)."""
        with self.subTest(text=text):
            self.assertEqual(ask_last(("load", text)), [answer])
            self.assertEqual(ask_last(("mayload", text)), [min(answer, 0)])

    def check_line(self, line, taken):
        """A third line behind two things says something, or nothing."""
        text = lines("in a 1", "out b 2") + line
        with self.subTest(line=line):
            self.assertEqual(ask_last(("mayload", text))[0] >= 0, taken)
            if not taken:
                self.assertEqual(ask_last(("load", text)), [-1003])
                self.assertEqual(ask_last(("mayload", text + "\nout c 1\n\n")), [-1003])


class SizeOfText(TextCase):
    def text_of_1200(self):
        parts = [padded("out a 1", 99)] + [padded("never a > 1", 99)] * 11
        return lines(*parts)

    def test_1200_bytes_are_taken_and_1201_are_not(self):
        text = self.text_of_1200()
        self.assertEqual(len(text), 1200)
        self.check(text, 1)
        self.check(" " + text, -22)
        self.check(text + "never a > 1"[:1], -22)

    def test_too_long_is_told_ahead_of_a_line_that_says_nothing(self):
        self.check("\n" * 1201, -22)
        self.check("\n" * 1200, -1001)
        self.check([255] * 1300, -22)

    def test_a_line_that_says_nothing_is_told_ahead_of_the_size_of_the_house(self):
        self.check(lines("in a 3", "in b 3", "in c 3", "in d 3", "x"), -1005)
        self.check("x", -1001)


class Lines(TextCase):
    def test_the_last_line_with_and_without_its_end(self):
        for text in ("out a 1\nnever a > 1\n", "out a 1\nnever a > 1"):
            self.assertEqual(ask(("load", text), ("tell",)), [[1], told("out a 1", "never a > 1")])

    def test_an_empty_line_says_nothing(self):
        self.check("\n", -1001)
        self.check("\nout a 1\n", -1001)
        self.check("out a 1\n\n", -1002)
        self.check("out a 1\n\nout b 1\n", -1002)

    def test_a_line_of_blanks_says_nothing(self):
        self.check(" ", -1001)
        self.check("out a 1\n ", -1002)
        self.check("out a 1\n   \nout b 1", -1002)

    def test_an_empty_text_has_no_lines_and_so_no_things(self):
        self.check("", -28)

    def test_100_bytes_are_a_line_and_101_are_not(self):
        self.check(padded("out a 1", 100), 1)
        self.check(padded("out a 1", 101), -1001)
        self.check(padded("out a 1", 100) + "\n", 1)
        self.check(padded("out a 1", 101) + "\n", -1001)
        self.check("out a 1\n" + " " * 89 + "never a > 1", 1)
        self.check("out a 1\n" + " " * 90 + "never a > 1", -1002)

    def test_bytes_that_no_line_has(self):
        for byte in (0, 9, 11, 13, 31, 127, 128, 160, 255):
            self.check(as_bytes("out a 1") + [byte], -1001)
            self.check([byte] + as_bytes("out a 1"), -1001)
            self.check(as_bytes("out a 1\nout") + [byte] + as_bytes("b 1"), -1002)
            self.check(as_bytes("out a 1\nout b 1\n") + [byte], -1003)

    def test_bytes_that_a_line_has_but_no_word(self):
        for byte in (33, 37, 63, 64, 91, 96, 123, 126):
            self.check(as_bytes("out a 1 ") + [byte], -1001)
            self.check(as_bytes("out a") + [byte] + as_bytes(" 1"), -1001)

    def test_blanks_first_last_and_several_between(self):
        text = "   out   lamp  1  \n never    lamp   >  1 \n  rule lamp   = 0   ->   lamp = 0    "
        self.assertEqual(ask(("load", text), ("tell",)),
                         [[1], told("out lamp 1", "never lamp > 1", "rule lamp = 0 -> lamp = 0")])

    def test_the_first_line_that_says_nothing_is_told(self):
        self.check("out a 1\nx\nout b 1\ny\n", -1002)
        self.check(lines(*BITS) + "never a = 2", -1007)


class Things(TextCase):
    def test_names_of_8_letters_and_9(self):
        self.check("out abcdefgh 1", 1)
        self.check("out abcdefghi 1", -1001)
        self.check("in z 1", 1)

    def test_names_that_are_words_of_the_document(self):
        for word in ("in", "out", "rule", "never", "and", "or", "not"):
            self.check("out %s 1" % word, -1001)
            self.check("in %s 1" % word, -1001)
        for word in ("ins", "outs", "rules", "nev", "an", "ands", "ors", "nor", "nots", "o", "i"):
            self.check("out %s 1" % word, 1)

    def test_signs_that_no_name_has(self):
        for word in ("A", "aB", "a1", "1", "a-b", "->", "=", "a=", "<", "a_b", "?", "a?"):
            self.check("out %s 1" % word, -1001)

    def test_a_name_told_twice(self):
        self.check("out a 1\nout a 1", -1002)
        self.check("out a 1\nin b 1\nin a 2", -1003)

    def test_greatest_values(self):
        for digit in ("1", "2", "3"):
            self.check("in a " + digit, 1)
        for digit in ("0", "4", "9", "01", "11", "-1", "a", "=", "12", "123", ""):
            self.check("in a " + digit, -1001)

    def test_wrong_numbers_of_words_and_wrong_words(self):
        for line in ("out", "out a", "out 1", "out a 1 1", "out a b 1", "a 1", "Out a 1", "outa 1", "outa1",
                     "on a 1", "out a1"):
            self.check(line, -1001)

    def test_the_6th_thing_and_the_7th(self):
        self.check(lines(*BITS), 6)
        self.check(lines(*BITS) + "out g 1", -1007)
        self.check(lines(*BITS) + "never a > 1\nin g 1", -1008)

    def test_64_states_and_more(self):
        self.check("in a 3\nin b 3\nin c 3", 3)
        self.check("in a 3\nin b 3\nin c 3\nin d 1", -28)
        self.check("in a 2\nin b 2\nin c 2\nin d 1", 4)
        self.check("in a 2\nin b 2\nin c 2\nin d 2", -28)
        self.check(lines(*BITS[:5]) + "in f 2", -28)
        self.check(lines(*BITS[:4]) + "in f 3", 5)

    def test_a_house_too_large_is_not_judged(self):
        flip = "rule a = 0 -> a = 1\nrule a = 1 -> a = 0\nnever a < 3\n"
        self.check("out a 3\n" + flip + "in b 3\nin c 3\nin d 1", -28)


class Entries(TextCase):
    def test_the_16th_entry_and_the_17th(self):
        self.check("out a 1\n" + "never a > 1\n" * 16, 1)
        self.check("out a 1\n" + "never a > 1\n" * 17, -1018)
        self.check("out a 1\n" + "rule a = 1 -> a = 1\n" * 16, 1)
        self.check("out a 1\n" + "rule a = 1 -> a = 1\n" * 16 + "never a > 1", -1018)
        self.check("out a 1\n" + "never a > 1\n" * 16 + "rule a = 1 -> a = 1\n", -1018)
        self.check("out a 1\n" + "never a > 1\n" * 16 + "out b 1\n", 2)

    def test_lines_that_say_a_rule_or_a_ban(self):
        for line in ("rule a = 1 -> b = 2", "rule not a = 1 -> b = 0", "never b < 0", "never b > 2", "never a > 0",
                     "rule and a = 0 b = 1 -> b = 1", "rule or not a = 0 and b > 1 b < 2 -> b = 0",
                     "never and and a = 1 b = 2 a = 0"):
            self.check_line(line, True)

    def test_lines_that_say_neither(self):
        for line in ("rule", "never", "rule a = 1", "rule a = 1 ->", "rule a = 1 -> b", "rule a = 1 -> b =",
                     "rule a = 1 -> b = 1 1", "rule a = 1 -> b = 1 b = 1", "rule a = 1 b = 1", "rule -> b = 1",
                     "-> b = 1", "rule a = 1 -> b < 1", "rule a = 1 -> b > 1", "rule a = 1 - > b = 1",
                     "rule a = 1 > b = 1", "rule a = 1 => b = 1", "rule a = 1 ->b = 1", "rule a=1 -> b=1",
                     "rule a = 1 -> not b = 1", "rule never a = 1 -> b = 1", "never rule a = 1", "never never a = 1",
                     "Never a = 1", "a = 1", "never a", "never a =", "never a 1", "never = 1", "never a = b",
                     "never a == 1", "never a >= 1", "never a - 1", "never a -> 1", "never 1 = a",
                     "rule a = 1 -> 1 = b", "not a = 1", "rules a = 1 -> b = 1", "never a = 1 ->",
                     "never a = 1 -> b = 1", "rule rule a = 1 -> b = 1"):
            self.check_line(line, False)

    def test_conditions_with_too_few_and_too_many(self):
        for line in ("never not", "never and", "never or a = 1", "never and a = 1", "never not not",
                     "never a = 1 a = 1", "never a = 1 and a = 1", "never and a = 1 b = 1 a = 0", "never not a = 1 b = 1",
                     "never or or a = 1 b = 1", "rule and a = 1 -> b = 1", "rule a = 1 a = 1 -> b = 1",
                     "never and and a = 1 a = 1", "never a not = 1", "never a = not 1"):
            self.check_line(line, False)

    def test_a_digit_that_is_not_one_of_the_values(self):
        for line in ("never a = 2", "never a < 2", "never a > 2", "never b = 3", "never b > 3", "rule a = 2 -> b = 1",
                     "rule a = 1 -> b = 3", "never a = 01", "never a = 9", "never a = -1", "never a = 012",
                     "never b = 12"):
            self.check_line(line, False)

    def test_a_rule_that_sets_a_thing_that_is_in(self):
        self.check_line("rule b = 1 -> a = 1", False)
        self.check_line("rule a = 1 -> a = 1", False)
        self.check_line("rule a = 1 -> b = 1", True)

    def test_things_that_no_line_before_told(self):
        self.check_line("never c = 1", False)
        self.check_line("rule a = 1 -> c = 1", False)
        self.check_line("never or a > 1 c = 1", False)
        self.check("out a 1\nnever b > 1\nout b 1", -1002)
        self.check("out a 1\nrule a = 1 -> b = 1\nout b 1", -1002)
        self.check("never a > 1\nout a 1", -1001)

    def test_things_told_behind_entries(self):
        text = "out b 1\nnever b > 1\nin a 2\nrule a = 2 -> b = 1\n"
        self.assertEqual(ask(("load", text), ("tell",), ("look", 1, 2)),
                         [[2], told("out b 1", "in a 2", "never b > 1", "rule a = 2 -> b = 1"), [1, 1, 2]])


class DeepConditions(TextCase):
    def judged(self, condition, thing="out a 1"):
        line = "never " + condition
        self.assertLessEqual(len(line), 100)
        return ask_last(("mayload", thing + "\n" + line))

    def test_not_as_often_as_a_line_allows(self):
        self.assertEqual(len("never " + "not " * 22 + "a = 0"), 99)
        self.assertEqual(self.judged("not " * 22 + "a = 0"), [2, 0])
        self.assertEqual(self.judged("not " * 21 + "a = 0"), [2, 0, 0, 1])
        self.assertEqual(self.judged("not " * 22 + "a > 1"), [0])

    def test_and_and_or_nested_to_the_left_and_to_the_right(self):
        for joint in ("or", "and"):
            count = 9 if joint == "or" else 8
            alike = ["a = 1"] * (count + 1)
            left = " ".join([joint] * count + alike)
            right = " ".join([joint + " a = 1"] * count + ["a = 1"])
            self.assertEqual(self.judged(left), [2, 0, 0, 1])
            self.assertEqual(self.judged(right), [2, 0, 0, 1])
        self.assertEqual(self.judged("or " * 9 + "a > 1 " * 9 + "a = 1"), [2, 0, 0, 1])
        self.assertEqual(self.judged("or " * 9 + "a = 1 " + "a > 1 " * 9), [2, 0, 0, 1])
        self.assertEqual(self.judged("or " * 9 + "a > 1 " * 10), [0])
        self.assertEqual(self.judged("and " * 8 + "a = 1 " * 8 + "a > 1"), [0])
        self.assertEqual(self.judged("and " * 8 + "a > 1 " + "a = 1 " * 8), [0])

    def test_nested_just_so_far_that_one_is_missing(self):
        self.assertEqual(ask_last(("mayload", "out a 1\nnever " + "or " * 9 + "a = 1 " * 9)), [-1002])
        self.assertEqual(ask_last(("mayload", "out a 1\nnever " + "or " * 8 + "a = 1 " * 10)), [-1002])
        self.assertEqual(ask_last(("mayload", "out a 1\nnever " + "or " * 31)), [-1002])

    def test_what_a_condition_joins(self):
        three = "in a 1\nin b 1\nin c 1\n"
        for condition, way in (("and a = 1 b = 1", [0, 1, 1, 1]), ("or a = 1 b = 1", [0, 1]),
                               ("and not a = 1 b = 1", [1, 1]), ("not or a = 0 b = 0", [0, 1, 1, 1]),
                               ("and or a = 1 b = 1 c = 1", [0, 1, 2, 1]), ("or and a = 1 b = 1 c = 1", [2, 1]),
                               ("and a = 1 not or b = 0 c = 0", [0, 1, 1, 1, 2, 1])):
            with self.subTest(condition=condition):
                self.assertEqual(ask_last(("mayload", three + "never " + condition)), [2, 0] + way)

    def test_comparisons(self):
        for condition, way in (("a = 0", []), ("a = 2", [0, 2]), ("a > 0", [0, 1]), ("a > 1", [0, 2]), ("a < 1", []),
                               ("a > 2", [0, 3]), ("and a > 0 not a = 1", [0, 2]), ("not a < 3", [0, 3]),
                               ("and a < 3 a > 1", [0, 2])):
            with self.subTest(condition=condition):
                self.assertEqual(self.judged(condition, "in a 3"), [2, 0] + way)
        self.assertEqual(self.judged("a < 0", "in a 3"), [0])
        self.assertEqual(self.judged("a > 3", "in a 3"), [0])


if __name__ == "__main__":
    unittest.main()
