"""Point 3 and the interface's stage 3: rules, tears and readings."""

import unittest

from tearwords.errors import NoRule, NoStretch, NoWord
from tearwords.tears import is_rule, readings_of, tear
from tests.samples import RULES, all_left_of, exchanged, left_of, odd_values, plainly_rule, strings_to


class IsRuleTest(unittest.TestCase):
    def test_rules(self):
        # Three times the ten pairs up to 3, and the six up to 2.
        self.assertEqual(len(RULES), 36)
        for rule in RULES:
            self.assertIs(is_rule(rule), True, rule)

    def test_bounds(self):
        for kind in ("faded", "open", "closed"):
            self.assertIs(is_rule((kind, 0, 3)), True)
            self.assertIs(is_rule((kind, 3, 3)), True)
            self.assertIs(is_rule((kind, 0, 4)), False)
            self.assertIs(is_rule((kind, 4, 4)), False)
        self.assertIs(is_rule(("doubled", 0, 2)), True)
        self.assertIs(is_rule(("doubled", 2, 2)), True)
        self.assertIs(is_rule(("doubled", 0, 3)), False)
        self.assertIs(is_rule(("doubled", 2, 3)), False)
        self.assertIs(is_rule(("doubled", 3, 3)), False)
        for kind in ("faded", "open", "closed", "doubled"):
            self.assertIs(is_rule((kind, -1, 1)), False)
            self.assertIs(is_rule((kind, -1, -1)), False)
            self.assertIs(is_rule((kind, 1, 0)), False)
            self.assertIs(is_rule((kind, 2, 1)), False)
            self.assertIs(is_rule((kind, 0, 10 ** 12)), False)

    def test_kinds(self):
        for kind in ("", "fade", "Faded", "opened", "close", "double", "faded ", " open", "first", None, True, 0,
                     (), [], {}, ("open",), ["open"], {"open": 1}, b"open"):
            self.assertIs(is_rule((kind, 0, 1)), False, kind)

    def test_numbers(self):
        for odd in (True, False, None, "0", "1", (), (0,), [], [1], {}):
            self.assertIs(is_rule(("open", odd, 1)), False, odd)
            self.assertIs(is_rule(("open", 0, odd)), False, odd)
            self.assertIs(is_rule(("open", odd, odd)), False, odd)

    def test_form(self):
        for thing in (["open", 0, 1], ("open", 0), ("open", 0, 1, 1), ("open", (0, 1)), (0, 1, "open"), (("open", 0, 1),),
                      [("open", 0, 1)], {"open": (0, 1)}, "open", "abc"):
            self.assertIs(is_rule(thing), False, thing)

    def test_values_of_every_kind(self):
        rule = ("closed", 1, 1)
        for part in odd_values():
            self.assertIs(is_rule(part), False)
            for thing in exchanged(rule, part):
                self.assertIs(is_rule(thing), plainly_rule(thing))


class TearTest(unittest.TestCase):
    def test_worked_example(self):
        told = [tear(('faded', 1, 2), 'abba', 1, 2), tear(('open', 0, 1), 'ab', 2, 0),
                readings_of(('closed', 1, 1), 'aab'), readings_of(('doubled', 1, 1), 'ab')]
        self.assertEqual(told, ['a??a', 'ab*', ['aa', 'ab'], ['aab', 'abb']])

    def test_places(self):
        for at, faded, opened, closed, doubled in (
            (0, "??cde", "*cde", "cde", "ababcde"),
            (1, "a??de", "a*de", "ade", "abcbcde"),
            (2, "ab??e", "ab*e", "abe", "abcdcde"),
            (3, "abc??", "abc*", "abc", "abcdede"),
        ):
            self.assertEqual(tear(("faded", 0, 2), "abcde", at, 2), faded)
            self.assertEqual(tear(("open", 0, 2), "abcde", at, 2), opened)
            self.assertEqual(tear(("closed", 0, 2), "abcde", at, 2), closed)
            self.assertEqual(tear(("doubled", 0, 2), "abcde", at, 2), doubled)

    def test_empty_stretches(self):
        for at, opened in ((0, "*ab"), (1, "a*b"), (2, "ab*")):
            self.assertEqual(tear(("open", 0, 3), "ab", at, 0), opened)
            self.assertEqual(tear(("faded", 0, 3), "ab", at, 0), "ab")
            self.assertEqual(tear(("closed", 0, 3), "ab", at, 0), "ab")
            self.assertEqual(tear(("doubled", 0, 2), "ab", at, 0), "ab")
        self.assertEqual(tear(("open", 0, 0), "", 0, 0), "*")
        self.assertEqual(tear(("doubled", 0, 0), "", 0, 0), "")

    def test_whole_word(self):
        self.assertEqual(tear(("faded", 3, 3), "abc", 0, 3), "???")
        self.assertEqual(tear(("open", 3, 3), "abc", 0, 3), "*")
        self.assertEqual(tear(("closed", 3, 3), "abc", 0, 3), "")
        self.assertEqual(tear(("doubled", 2, 2), "az", 0, 2), "azaz")

    def test_all_small_letters(self):
        word = "abcdefghijklmnopqrstuvwxyz"
        self.assertEqual(tear(("closed", 1, 1), word, 25, 1), word[:25])

    def test_against_telling_sign_by_sign(self):
        for rule in RULES:
            for word in ("", "a", "ab", "aab", "abca", "zyxwv"):
                for at in range(-2, len(word) + 3):
                    for size in range(-1, 6):
                        right = 0 <= at and at + size <= len(word) and rule[1] <= size <= rule[2]
                        if right:
                            self.assertEqual(tear(rule, word, at, size), left_of(rule[0], word, at, size))
                        else:
                            with self.assertRaises(NoStretch):
                                tear(rule, word, at, size)

    def test_no_stretch(self):
        for at, size in ((-1, 1), (3, 1), (2, 2), (0, 3), (0, 0), (3, 0), (4, 0), (0, -1), (10 ** 12, 1), (0, 10 ** 12),
                         (True, 1), (0, True), (False, 1), (None, 1), (0, None), ("0", 1), (0, "1"), ((0,), 1), ([], 1),
                         (0, [1]), ({}, {})):
            with self.assertRaises(NoStretch):
                tear(("faded", 1, 2), "abc", at, size)
        for at in (-1, 4, 5):
            with self.assertRaises(NoStretch):
                tear(("open", 0, 1), "abc", at, 0)
        with self.assertRaises(NoStretch):
            tear(("open", 0, 1), "abc", 0, False)

    def test_no_word(self):
        for word in ("A", "a b", "?", "*", "a1", "`", "{", "\u00e4", "a" * 201, "a" * 1000, None, True, 0, (), ("a",),
                     ["a"], [], {}, b"a"):
            with self.assertRaises(NoWord):
                tear(("open", 0, 1), word, 0, 0)
            with self.assertRaises(NoWord):
                readings_of(("open", 0, 1), word)

    def test_no_rule(self):
        for rule in odd_values() + [["open", 0, 1], ("open", 0, 4), ("open", False, 1), ("open", 0, True), ("doubled", 0, 3)]:
            with self.assertRaises(NoRule):
                tear(rule, "a", 0, 0)
            with self.assertRaises(NoRule):
                readings_of(rule, "a")

    def test_order_of_errors(self):
        with self.assertRaises(NoRule):
            tear(("open", 2, 1), "A", -1, -1)
        with self.assertRaises(NoRule):
            tear(("open", 2, 1), "a", -1, -1)
        with self.assertRaises(NoWord):
            tear(("open", 1, 1), "A", -1, -1)
        with self.assertRaises(NoWord):
            tear(("open", 1, 1), None, None, None)
        with self.assertRaises(NoRule):
            readings_of(("open", 2, 1), "A")

    def test_long_words(self):
        word = "ab" * 100
        self.assertEqual(tear(("doubled", 2, 2), word, 198, 2), word + "ab")
        self.assertEqual(tear(("open", 0, 0), word, 200, 0), word + "*")
        with self.assertRaises(NoWord):
            tear(("open", 0, 0), word + "a", 0, 0)


class ReadingsTest(unittest.TestCase):
    def test_each_reading_once(self):
        self.assertEqual(readings_of(("closed", 1, 1), "aaaa"), ["aaa"])
        self.assertEqual(readings_of(("doubled", 1, 1), "aaaa"), ["aaaaa"])
        self.assertEqual(readings_of(("closed", 2, 2), "abab"), ["ab"])
        self.assertEqual(readings_of(("closed", 0, 3), "aaa"), ["", "a", "aa", "aaa"])
        self.assertEqual(readings_of(("doubled", 0, 2), "aa"), ["aa", "aaa", "aaaa"])
        self.assertEqual(readings_of(("faded", 0, 0), "aaa"), ["aaa"])
        self.assertEqual(readings_of(("open", 1, 1), "aa"), ["*a", "a*"])

    def test_empty_word(self):
        for kind in ("faded", "closed", "doubled"):
            self.assertEqual(readings_of((kind, 0, 1), ""), [""])
            self.assertEqual(readings_of((kind, 1, 1), ""), [])
        self.assertEqual(readings_of(("open", 0, 3), ""), ["*"])
        self.assertEqual(readings_of(("open", 1, 3), ""), [])

    def test_fewer_letters_than_least(self):
        for kind, bound in (("faded", 3), ("open", 3), ("closed", 3), ("doubled", 2)):
            for word in ("", "a", "ab"):
                told = readings_of((kind, bound, bound), word)
                self.assertEqual(told == [], len(word) < bound, (kind, word))

    def test_order(self):
        # Signs stand as Python's strings do: * before ? before the letters.
        self.assertEqual(readings_of(("faded", 0, 2), "ab"), ["??", "?b", "a?", "ab"])
        self.assertEqual(readings_of(("open", 0, 1), "ba"), ["*a", "b*", "*ba", "b*a", "ba*"])
        self.assertEqual(readings_of(("closed", 0, 2), "cba"), ["a", "c", "ba", "ca", "cb", "cba"])
        self.assertEqual(readings_of(("doubled", 0, 2), "ba"), ["ba", "baa", "bba", "baba"])

    def test_the_word_itself(self):
        for word in ("ab", "aab", "abc"):
            for most in (1, 2):
                self.assertNotIn(word, readings_of(("closed", 1, most), word))
                self.assertNotIn(word, readings_of(("doubled", 1, most), word))
                self.assertIn(word, readings_of(("closed", 0, most), word))
                self.assertIn(word, readings_of(("doubled", 0, most), word))
                self.assertIn(word, readings_of(("faded", 0, most), word))
                self.assertTrue(all(["?" in reading for reading in readings_of(("faded", 1, most), word)]))

    def test_against_trying_all_stretches(self):
        for rule in RULES:
            for word in strings_to("ab", 5) + ["abcabc", "zzyzz"]:
                self.assertEqual(readings_of(rule, word), all_left_of(rule, word), (rule, word))

    def test_long_words(self):
        for rule in (("faded", 0, 3), ("open", 0, 3), ("closed", 3, 3), ("doubled", 0, 2)):
            word = "abc" * 66 + "ab"
            self.assertEqual(len(word), 200)
            self.assertEqual(readings_of(rule, word), all_left_of(rule, word))
            with self.assertRaises(NoWord):
                readings_of(rule, word + "c")
        self.assertEqual(readings_of(("closed", 1, 1), "a" * 200), ["a" * 199])
        self.assertEqual(readings_of(("doubled", 1, 2), "a" * 200), ["a" * 201, "a" * 202])


if __name__ == "__main__":
    unittest.main()
