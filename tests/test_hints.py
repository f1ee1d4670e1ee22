"""Point 8 and the interface's stage 7: hints, and words that are confused with one."""

import unittest

from tearwords.errors import NoHint, NoMachine, NoRule, NoWord
from tearwords.hints import confused_with, hinted, least_hint
from tearwords.machines import has_word
from tearwords.pairs import confused
from tests.samples import ALL_ENDS, EVEN, ONE_STATE, RING, RULES, TWO_WORDS, neighbours, odd_values
from tests.slow import fewest_letters, plainly_confused, plainly_hinted, some_machines, tears_to, words_to

HINTS = [(kind, k) for kind in ("first", "last") for k in (0, 1, 2, 3)]
ALL_WORDS = ("ab", ((0, 0),), (0,))
SMALL = (
    [EVEN, TWO_WORDS, ALL_WORDS, ("ab", ((0, None),), (0,)), ("ab", ((1, 1), (2, 2), (0, 0)), (0,)),
     ("ab", ((1, None), (None, 2), (None, 0)), (0,)), ("ab", ((1, 2), (1, 3), (3, 2), (None, None)), (3,))]
    + some_machines("ab", 1, 2) + some_machines("ab", 2, 4) + some_machines("ab", 3, 6) + some_machines("ab", 4, 10)
)
NO_HINTS = [
    ("first", 4), ("last", 4), ("first", -1), ("last", 10 ** 12), ("first", True), ("last", False), ("first", None),
    ("first", "1"), ("first", (1,)), ("first", [1]), ("First", 1), ("", 1), ("both", 1), ("firstlast", 1), (None, 1),
    (0, 1), (True, 1), (("first",), 1), (["first"], 1), ({}, 1), (1, "first"), ("first",), ("first", 1, 1), ["first", 1],
    ["last", 0], {"first": 1}, "first", ("first", {}), (("first", 1),), [("first", 1)],
]


class HintedTest(unittest.TestCase):
    def test_worked_example(self):
        machine = ('ab', ((0, 1), (1, 0)), (0,))
        told = [hinted(('last', 2), 'abc'), least_hint(machine, ('faded', 1, 1), 'first'),
                least_hint(machine, ('closed', 1, 1), 'first')]
        self.assertEqual(told, ['bc', 0, None])

    def test_both_kinds(self):
        for k, first, last in ((0, "", ""), (1, "a", "e"), (2, "ab", "de"), (3, "abc", "cde")):
            self.assertEqual(hinted(("first", k), "abcde"), first)
            self.assertEqual(hinted(("last", k), "abcde"), last)

    def test_short_stretches(self):
        for kind in ("first", "last"):
            for k in (0, 1, 2, 3):
                self.assertEqual(hinted((kind, k), ""), "")
                self.assertEqual(hinted((kind, k), "a"), "a" if k else "")
            self.assertEqual(hinted((kind, 2), "xy"), "xy")
            self.assertEqual(hinted((kind, 3), "xy"), "xy")
            self.assertEqual(hinted((kind, 3), "xyz"), "xyz")
        self.assertEqual(hinted(("first", 1), "xy"), "x")
        self.assertEqual(hinted(("last", 1), "xy"), "y")

    def test_against_a_plain_answer(self):
        for hint in HINTS:
            for stretch in ("", "z", "mn", "zya", "aaab", "abcdefghijklmnopqrstuvwxyz", "ab" * 100):
                self.assertEqual(hinted(hint, stretch), plainly_hinted(hint, stretch))

    def test_long_stretches(self):
        self.assertEqual(hinted(("first", 2), "ab" + "c" * 198), "ab")
        self.assertEqual(hinted(("last", 2), "c" * 198 + "ab"), "ab")
        for stretch in ("a" * 201, "a" * 1000):
            for hint in HINTS:
                with self.assertRaises(NoWord):
                    hinted(hint, stretch)

    def test_no_word(self):
        for stretch in ("A", "a b", " ", "?", "*", "a?", "ab*", "a1", "`", "{", "\n", "\u00e4", None, True, 0, (), ("a",),
                        ["a"], [], {}, b"a"):
            with self.assertRaises(NoWord):
                hinted(("first", 1), stretch)

    def test_no_hint(self):
        for hint in NO_HINTS + odd_values():
            with self.assertRaises(NoHint):
                hinted(hint, "abc")
            with self.assertRaises(NoHint):
                hinted(hint, "A" * 201)
        for hint in HINTS:
            for thing in neighbours(hint):
                if thing not in HINTS or type(thing[1]) is bool:
                    with self.assertRaises(NoHint):
                        hinted(thing, "a")


class ConfusedWithTest(unittest.TestCase):
    def check_against_slow_answers(self, machines, letters, most):
        for rule in RULES:
            tears = tears_to(rule, letters, most)
            for machine in machines:
                words = words_to(machine, most)
                for hint in HINTS:
                    self.check_one(machine, rule, hint, fewest_letters(tears, words, hint), most)

    def check_one(self, machine, rule, hint, fewest, most):
        told = confused_with(machine, rule, hint)
        where = (machine, rule, hint, told)
        if told is None:
            self.assertIsNone(fewest, where)
            return
        self.assertEqual([type(told)] + [type(part) for part in told], [tuple, str, str, str])
        word, other, _ = told
        self.assertLess((len(word), word), (len(other), other), where)
        self.assertTrue(has_word(machine, word) and has_word(machine, other), where)
        self.assertTrue(plainly_confused(rule, hint, told), where)
        many = len(word + other)
        # Two confused words differ by at most three letters, so these are among all words looked through.
        if many + 3 <= 2 * most:
            self.assertEqual(fewest, many, where)
        elif fewest is not None:
            self.assertGreaterEqual(fewest, many, where)

    def test_two_letters(self):
        self.check_against_slow_answers(SMALL, "ab", 6)

    def test_one_letter(self):
        machines = [ONE_STATE] + some_machines("a", 2, 6) + some_machines("a", 4, 8) + some_machines("a", 6, 8)
        self.check_against_slow_answers(machines, "a", 16)

    def test_three_letters(self):
        machines = [RING, ALL_ENDS] + some_machines("abc", 2, 3) + some_machines("abc", 4, 3)
        self.check_against_slow_answers(machines, "abc", 4)

    def test_no_letters_told(self):
        for machine in SMALL:
            for rule in RULES:
                told = confused(machine, rule)
                for kind in ("first", "last"):
                    with_none = confused_with(machine, rule, (kind, 0))
                    self.assertEqual(with_none is None, told is None)
                    if told is not None:
                        self.assertEqual(len(told[0] + told[1]), len(with_none[0] + with_none[1]))

    def test_stretches_told_apart(self):
        rule = ("faded", 2, 2)
        self.assertEqual(confused_with(ALL_WORDS, rule, ("first", 0)), ("aa", "ab", "??"))
        self.assertEqual(confused_with(ALL_WORDS, rule, ("first", 1))[:2], ("aa", "ab"))
        self.assertIn(confused_with(ALL_WORDS, rule, ("last", 1))[:2], [("aa", "ba"), ("ab", "bb")])
        self.assertIsNone(confused_with(ALL_WORDS, rule, ("first", 2)))
        self.assertIsNone(confused_with(ALL_WORDS, rule, ("last", 3)))
        # Both words leave b without an a, so the letter that is told is the same.
        self.assertEqual(confused_with(TWO_WORDS, ("closed", 1, 1), ("last", 0))[:2], ("ab", "ba"))
        self.assertEqual(confused_with(TWO_WORDS, ("closed", 1, 1), ("last", 1))[:2], ("ab", "ba"))
        self.assertEqual(confused_with(TWO_WORDS, ("closed", 2, 2), ("last", 0)), ("ab", "ba", ""))
        self.assertIsNone(confused_with(TWO_WORDS, ("closed", 2, 2), ("last", 1)))

    def test_empty_stretches(self):
        # The empty stretch tells nothing, which is another thing than what a stretch of letters tells.
        self.assertEqual(confused_with(ONE_STATE, ("open", 0, 1), ("first", 0)), ("", "a", "*"))
        self.assertIsNone(confused_with(ONE_STATE, ("open", 0, 1), ("first", 1)))
        self.assertEqual(confused_with(ONE_STATE, ("closed", 0, 2), ("last", 0)), ("", "a", ""))
        self.assertEqual(confused_with(ONE_STATE, ("closed", 0, 2), ("last", 1)), ("a", "aa", ""))
        self.assertIsNone(confused_with(ONE_STATE, ("closed", 0, 2), ("last", 2)))
        self.assertEqual(confused_with(ONE_STATE, ("doubled", 0, 2), ("first", 1)), ("aa", "aaa", "aaaa"))
        self.assertIsNone(confused_with(ONE_STATE, ("doubled", 0, 2), ("first", 2)))

    def test_errors_and_their_order(self):
        for hint in NO_HINTS + odd_values():
            with self.assertRaises(NoHint):
                confused_with(EVEN, ("closed", 1, 1), hint)
        for machine in odd_values() + [list(EVEN)]:
            with self.assertRaises(NoMachine):
                confused_with(machine, None, None)
        for rule in odd_values() + [["closed", 1, 1], ("closed", 1, True)]:
            with self.assertRaises(NoRule):
                confused_with(EVEN, rule, None)
        with self.assertRaises(NoHint):
            hinted(("first", 4), None)


class LeastHintTest(unittest.TestCase):
    def test_each_kind(self):
        self.assertEqual(least_hint(EVEN, ("faded", 1, 1), "first"), 0)
        self.assertEqual(least_hint(ALL_WORDS, ("faded", 1, 1), "first"), 1)
        self.assertEqual(least_hint(ALL_WORDS, ("faded", 0, 3), "last"), 3)
        self.assertEqual(least_hint(ALL_WORDS, ("open", 2, 2), "last"), 2)
        self.assertEqual(least_hint(ONE_STATE, ("open", 1, 3), "first"), 3)
        self.assertEqual(least_hint(ONE_STATE, ("closed", 1, 2), "last"), 2)
        self.assertEqual(least_hint(ONE_STATE, ("doubled", 1, 2), "first"), 2)
        self.assertIsNone(least_hint(ALL_WORDS, ("closed", 1, 1), "first"))
        self.assertIsNone(least_hint(ALL_WORDS, ("closed", 0, 3), "last"))
        self.assertIsNone(least_hint(ALL_WORDS, ("doubled", 2, 2), "last"))
        # The words aa and ba differ in the first letter, so that only the first one helps, and just alone.
        first_differs = ("ab", ((1, 1), (2, None), (None, None)), (2,))
        self.assertEqual(least_hint(first_differs, ("faded", 2, 2), "first"), 1)
        self.assertEqual(least_hint(first_differs, ("faded", 2, 2), "last"), 2)

    def test_most_of_the_rule_is_the_greatest(self):
        for kind in ("first", "last"):
            for rule in (("faded", 0, 0), ("open", 0, 0), ("closed", 0, 0), ("doubled", 0, 0)):
                self.assertEqual(least_hint(ALL_WORDS, rule, kind), 0)
            self.assertIsNone(least_hint(ALL_WORDS, ("closed", 1, 1), kind))

    def test_against_slow_answers(self):
        found = set()
        for rule in RULES:
            tears = tears_to(rule, "ab", 6)
            for machine in SMALL:
                words = words_to(machine, 6)
                for kind in ("first", "last"):
                    told = least_hint(machine, rule, kind)
                    found.add(told)
                    for k in range(rule[2] + 1 if told is None else told):
                        self.assertIsNotNone(confused_with(machine, rule, (kind, k)))
                    if told is not None:
                        self.assertIs(type(told), int)
                        self.assertLessEqual(told, rule[2])
                        self.assertIsNone(fewest_letters(tears, words, (kind, told)), (machine, rule, kind))
                        self.assertIsNone(confused_with(machine, rule, (kind, told)))
        self.assertEqual(found, {None, 0, 1, 2, 3})

    def test_no_hint_for_another_name(self):
        for kind in odd_values() + ["First", "last ", "firs", "open", "middle", ("first",), ["last"], ("first", 1), b"first"]:
            with self.assertRaises(NoHint):
                least_hint(EVEN, ("closed", 1, 1), kind)

    def test_order_of_errors(self):
        for machine in odd_values() + [list(EVEN)]:
            with self.assertRaises(NoMachine):
                least_hint(machine, None, None)
        for rule in odd_values() + [["closed", 1, 1], ("closed", 1, True)]:
            with self.assertRaises(NoRule):
                least_hint(EVEN, rule, "both")


if __name__ == "__main__":
    unittest.main()
