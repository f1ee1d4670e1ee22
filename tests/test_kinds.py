"""Point 12 and the interface's stage 10: kinds compared."""

import unittest
from itertools import combinations, permutations

from tearwords.errors import NoReading, NoRule, NoWord
from tearwords.kinds import as_closed, as_open
from tearwords.tears import readings_of
from tests.samples import RULES, all_left_of, odd_values, strings_to
from tests.slow import left_set

# For each function the kinds that it takes, and the kind whose readings it returns.
COMPARED = ((as_open, ("faded",), "open"), (as_closed, ("open", "doubled"), "closed"))
NO_WORDS = ["A", "a b", " ", "?", "a?", "*", "a*", "1", "\n", "a" * 201, None, True, 0, (), ("a",), ["a"], [], {}, b"a"]


def words_behind(rule, words):
    """For each reading the words that have it."""
    found = {}
    for word in words:
        for reading in left_set(rule, word):
            found.setdefault(reading, []).append(word)
    return found


class KindsTest(unittest.TestCase):
    def test_worked_example(self):
        told = [as_closed(('doubled', 1, 1), 'aab', 'abb', 'aabb'), as_open(('faded', 1, 1), 'aa', 'ab', 'a?')]
        self.assertEqual(told, ['ab', 'a*'])

    def check_told(self, call, kind, rule, word, other, reading):
        told = call(rule, word, other, reading)
        compared = (kind, rule[1], rule[2])
        self.assertIs(type(told), str)
        self.assertIn(told, left_set(compared, word), (rule, word, other, reading))
        self.assertIn(told, left_set(compared, other), (rule, word, other, reading))

    def test_all_words_of_few_letters(self):
        for letters, most, step in (("a", 9, 1), ("ab", 5, 3), ("xyz", 3, 5)):
            words = strings_to(letters, most)
            seen = {}
            for call, kinds, kind in COMPARED:
                for rule in RULES:
                    if rule[0] not in kinds:
                        continue
                    for reading, some in words_behind(rule, words).items():
                        for word, other in list(permutations(some, 2))[::step]:
                            seen[rule] = True
                            self.check_told(call, kind, rule, word, other, reading)
            # Of one letter only words of unlike lengths are confused; with xyz none under the doubled two alone.
            self.assertEqual(len(seen), {"a": 9, "ab": 23, "xyz": 22}[letters])

    def test_doubled_stretches_that_overlap(self):
        # The readings hold runs, so that several stretches of each may be the doubled one.
        rule = ("doubled", 0, 2)
        words = [word for word in strings_to("ab", 8) if len(word) > 5 and word[:3] in ("aaa", "aba", "bab", "aab")]
        seen = 0
        for reading, some in words_behind(rule, words).items():
            for word, other in list(combinations(some, 2))[::2]:
                seen += 1
                self.check_told(as_closed, "closed", rule, word, other, reading)
                self.check_told(as_closed, "closed", rule, other, word, reading)
        self.assertGreater(seen, 100)

    def test_few_cases(self):
        self.assertEqual(as_open(("faded", 2, 2), "aab", "bbb", "??b"), "*b")
        self.assertEqual(as_open(("faded", 3, 3), "abc", "xyz", "???"), "*")
        self.assertEqual(as_open(("faded", 1, 3), "zab", "zcd", "z??"), "z*")
        self.assertEqual(as_closed(("open", 1, 1), "ab", "cb", "*b"), "b")
        self.assertEqual(as_closed(("open", 1, 1), "ab", "ac", "a*"), "a")
        self.assertEqual(as_closed(("open", 0, 1), "ab", "abc", "ab*"), "ab")
        self.assertEqual(as_closed(("open", 3, 3), "abcx", "defx", "*x"), "x")
        self.assertEqual(as_closed(("open", 0, 2), "", "ab", "*"), "")
        self.assertEqual(as_closed(("doubled", 0, 1), "ab", "abb", "abb"), "ab")
        self.assertEqual(as_closed(("doubled", 0, 1), "aab", "ab", "aab"), "ab")
        self.assertEqual(as_closed(("doubled", 1, 2), "aaa", "aa", "aaaa"), "a")

    def test_empty_stretches(self):
        for word, other in (("", "a"), ("ab", "aab"), ("ab", "abb"), ("zab", "zabab")):
            for rule in (("open", 0, 2), ("doubled", 0, 2)):
                for reading in left_set(rule, word) & left_set(rule, other):
                    self.check_told(as_closed, "closed", rule, word, other, reading)
                    self.check_told(as_closed, "closed", rule, other, word, reading)
        self.assertEqual(as_closed(("doubled", 0, 2), "zab", "zabab", "zabab"), "zab")

    def test_both_ends(self):
        for size in (1, 2, 3):
            for rest in ("", "m", "mno"):
                one, other = "abc"[:size], "xyz"[:size]
                rule = ("faded", size, size)
                self.check_told(as_open, "open", rule, one + rest, other + rest, "?" * size + rest)
                self.check_told(as_open, "open", rule, rest + one, rest + other, rest + "?" * size)
                rule = ("open", size, size)
                self.check_told(as_closed, "closed", rule, one + rest, other + rest, "*" + rest)
                self.check_told(as_closed, "closed", rule, rest + one, rest + other, rest + "*")
        self.check_told(as_closed, "closed", ("doubled", 1, 1), "a" + "bb", "aa" + "b", "aabb")
        self.check_told(as_closed, "closed", ("doubled", 2, 2), "ab" + "cdcd", "abab" + "cd", "ababcdcd")

    def test_long_words(self):
        word, other = "a" * 200, "a" * 199 + "b"
        self.assertEqual(as_open(("faded", 1, 1), word, other, "a" * 199 + "?"), "a" * 199 + "*")
        self.check_told(as_closed, "closed", ("open", 1, 1), word, other, "a" * 199 + "*")
        self.check_told(as_closed, "closed", ("open", 0, 1), word, word[:199], word[:199] + "*")
        self.check_told(as_closed, "closed", ("doubled", 1, 2), word[:198], word[:199], word)
        self.check_told(as_closed, "closed", ("doubled", 0, 1), word[:199], word, word)
        # The reading of these has more signs than may be passed.
        with self.assertRaises(NoReading):
            as_closed(("doubled", 1, 2), word, word[:199], "a" * 201)
        with self.assertRaises(NoWord):
            as_closed(("doubled", 1, 2), word + "a", word, "a" * 201)

    def test_rules_of_another_kind(self):
        for call, kinds, _ in COMPARED:
            for rule in RULES:
                if rule[0] not in kinds:
                    with self.assertRaises(NoRule):
                        call(rule, None, None, None)
                    with self.assertRaises(NoRule):
                        call(rule, "ab", "ac", "a")
            first = kinds[0]
            for rule in odd_values() + [[first, 0, 1], (first, 0, True), (first, 2, 1), (first, 0, 4), (kinds, 0, 1),
                                        (first, -1, 1), (first, 0), first, (first, 0, 1, 1)]:
                with self.assertRaises(NoRule):
                    call(rule, "ab", "ac", "a*")

    def test_no_words(self):
        for call, rule, reading in ((as_open, ("faded", 0, 1), "a?"), (as_closed, ("open", 0, 1), "a*"),
                                    (as_closed, ("doubled", 0, 1), "aab")):
            for wrong in NO_WORDS:
                for given in ((wrong, "ab", reading), ("ab", wrong, reading), (wrong, wrong, None), ("ab", wrong, None),
                              (wrong, "ab", None)):
                    with self.assertRaises(NoWord):
                        call(rule, *given)
            for word in ("", "a", "ab", "ab" * 100):
                for told in [reading, None, ""] + readings_of(rule, word)[:2]:
                    with self.assertRaises(NoWord):
                        call(rule, word, "".join(list(word)), told)

    def test_readings_that_one_has_not(self):
        words = strings_to("ab", 3)
        for call, kinds, _ in COMPARED:
            for rule in [some for some in RULES if some[0] in kinds]:
                for word, other in permutations(words, 2):
                    both = left_set(rule, word) & left_set(rule, other)
                    for reading in (left_set(rule, word) | left_set(rule, other)) - both:
                        with self.assertRaises(NoReading):
                            call(rule, word, other, reading)

    def test_no_readings(self):
        for call, rule in ((as_open, ("faded", 0, 2)), (as_closed, ("open", 0, 2)), (as_closed, ("doubled", 0, 2))):
            shared = sorted(left_set(rule, "aab") & left_set(rule, "abb"))[0]
            near = [shared + " ", shared.upper(), shared[:-1], [shared], (shared,), {shared: 1}, shared.encode()]
            for reading in odd_values()[:-6] + near + ["?", "*", "a", "aab", "abb", "a??b", "a*b*"]:
                if reading not in all_left_of(rule, "aab") or reading not in all_left_of(rule, "abb"):
                    with self.assertRaises(NoReading):
                        call(rule, "aab", "abb", reading)

    def test_what_one_kind_confuses_the_other_does(self):
        words = strings_to("ab", 4)
        for call, kinds, kind in COMPARED:
            for rule in [some for some in RULES if some[0] in kinds]:
                compared = (kind, rule[1], rule[2])
                for word, other in combinations(words, 2):
                    if left_set(rule, word) & left_set(rule, other):
                        self.assertTrue(left_set(compared, word) & left_set(compared, other))


if __name__ == "__main__":
    unittest.main()
