"""Points 10 and 11 and the interface's stage 9: how much may be torn at most, and which words are safe."""

import unittest

from tearwords.errors import NoCount, NoKind, NoMachine, NoRule, NoWord
from tearwords.machines import has_word
from tearwords.pairs import is_sure
from tearwords.safety import greatest_most, rival_of, unsafe_word
from tests.samples import ALL_ENDS, EVEN, ONE_STATE, RING, RULES, TWO_WORDS, all_left_of, odd_values
from tests.slow import BOUND_OF, left_set, pairs_among, short_machines, some_machines, words_to

ALL_WORDS = ("ab", ((0, 0),), (0,))
NO_WORDS = ("ab", ((0, 0),), ())
# The words are made of abb again and again.
THIRDS = ("ab", ((1, None), (None, 2), (None, 0)), (0,))
SHORT = [TWO_WORDS, NO_WORDS] + short_machines("a", 5, 4) + short_machines("ab", 5, 8) + short_machines("abc", 4, 4)
LONG = [EVEN, ALL_WORDS, THIRDS, ("ab", ((1, 1), (2, 2), (0, 0)), (0,))] + some_machines("ab", 3, 6) + some_machines("ab", 4, 4)


class GreatestMostTest(unittest.TestCase):
    def test_worked_example(self):
        machine = ('ab', ((0, 1), (1, 0)), (0,))
        self.assertEqual([greatest_most(machine, 'faded', 1), rival_of(machine, ('faded', 1, 2), 'aa'),
                          rival_of(machine, ('faded', 1, 2), 'a')][::2], [1, None])

    def test_each_kind_and_least(self):
        seen = set()
        for machine in SHORT + LONG + [ONE_STATE, RING, ALL_ENDS]:
            for kind, bound in BOUND_OF.items():
                for least in range(bound + 1):
                    sure = [most for most in range(least, bound + 1) if is_sure(machine, (kind, least, most))]
                    told = greatest_most(machine, kind, least)
                    seen.add((kind, least, told))
                    self.assertEqual(told, max(sure, default=None), (machine, kind, least))
                    # A greater most confuses what a lesser one does.
                    self.assertEqual(sure, list(range(least, least + len(sure))))
        for kind, bound in BOUND_OF.items():
            # With least 0 no letter may be torn, and then all are sure.
            for least in range(1, bound + 1):
                self.assertIn((kind, least, None), seen)
                self.assertIn((kind, least, bound), seen)

    def test_few_cases(self):
        self.assertEqual(greatest_most(ALL_WORDS, "faded", 0), 0)
        self.assertIsNone(greatest_most(ALL_WORDS, "faded", 1))
        self.assertEqual(greatest_most(NO_WORDS, "closed", 0), 3)
        self.assertEqual(greatest_most(NO_WORDS, "doubled", 2), 2)
        self.assertEqual(greatest_most(THIRDS, "open", 1), 3)
        self.assertEqual(greatest_most(THIRDS, "open", 0), 2)
        self.assertEqual(greatest_most(THIRDS, "closed", 0), 2)
        self.assertEqual(greatest_most(ONE_STATE, "closed", 3), 3)
        self.assertEqual(greatest_most(ONE_STATE, "closed", 2), 2)
        self.assertEqual(greatest_most(ONE_STATE, "doubled", 1), 1)

    def test_no_kind(self):
        for kind in odd_values() + ["Faded", "close", "opened", "faded ", ("faded",), ["open"], {"closed": 1}, b"open", "first"]:
            if kind != "faded":
                with self.assertRaises(NoKind):
                    greatest_most(EVEN, kind, None)

    def test_no_count(self):
        for kind, bound in BOUND_OF.items():
            for least in (bound + 1, bound + 10, -1, -10 ** 12, 10 ** 12, True, False, None, "", "1", (), (1,), [1], {}, {1: 1}):
                with self.assertRaises(NoCount):
                    greatest_most(EVEN, kind, least)

    def test_order_of_errors(self):
        for machine in odd_values() + [list(EVEN)]:
            with self.assertRaises(NoMachine):
                greatest_most(machine, None, None)
        with self.assertRaises(NoKind):
            greatest_most(EVEN, "none", 7)
        with self.assertRaises(NoCount):
            greatest_most(EVEN, "doubled", 3)


class RivalTest(unittest.TestCase):
    def check_told(self, machine, rule, word, told):
        self.assertEqual([type(told)] + [type(part) for part in told], [tuple, str, str])
        other, reading = told
        self.assertNotEqual(other, word)
        self.assertIs(has_word(machine, other), True, (machine, rule, word, told))
        self.assertIn(reading, left_set(rule, word), (machine, rule, word, told))
        self.assertIn(reading, left_set(rule, other), (machine, rule, word, told))

    def check_words(self, machine, words, candidates):
        """Each of the words is safe exactly if none of the candidates is confused with it."""
        for rule in RULES:
            unsafe = {word for pair in pairs_among(rule, candidates) for word in pair}
            for word in words:
                told = rival_of(machine, rule, word)
                self.assertEqual(told is not None, word in unsafe, (machine, rule, word))
                self.seen[told is not None] += 1
                if told is not None:
                    self.check_told(machine, rule, word, told)

    def setUp(self):
        self.seen = {True: 0, False: 0}

    def test_worked_example(self):
        machine = ('ab', ((0, 1), (1, 0)), (0,))
        self.assertEqual(rival_of(machine, ('faded', 1, 2), 'aa'), ('bb', '??'))
        self.assertIsNone(rival_of(machine, ('faded', 1, 2), 'a'))

    def test_machines_with_few_words(self):
        for machine in SHORT:
            words = words_to(machine, 6)
            self.check_words(machine, words, words)
        self.assertGreater(min(self.seen.values()), 100)

    def test_machines_with_many_words(self):
        # A word that is confused with another one has at most three letters less.
        for machine in LONG:
            self.check_words(machine, words_to(machine, 3)[:8], words_to(machine, 6))
        for machine in [ONE_STATE] + some_machines("a", 4, 4):
            self.check_words(machine, words_to(machine, 8), words_to(machine, 11))
        self.check_words(ALL_ENDS, words_to(ALL_ENDS, 2), words_to(ALL_ENDS, 5))
        self.assertGreater(min(self.seen.values()), 500)

    def test_no_other_than_words_of_the_machine(self):
        # Under "faded" aa and ab would be confused, but ab is none of the words.
        self.assertIsNone(rival_of(EVEN, ("faded", 1, 1), "aa"))
        self.assertIsNone(rival_of(TWO_WORDS, ("faded", 1, 1), "ab"))
        self.assertEqual(rival_of(TWO_WORDS, ("faded", 2, 2), "ab"), ("ba", "??"))
        self.assertEqual(rival_of(TWO_WORDS, ("faded", 1, 2), "ba"), ("ab", "??"))

    def test_empty_word(self):
        self.assertIsNone(rival_of(ALL_WORDS, ("closed", 1, 1), ""))
        self.assertEqual(rival_of(ONE_STATE, ("closed", 0, 1), ""), ("a", ""))
        self.assertEqual(rival_of(ONE_STATE, ("open", 0, 1), ""), ("a", "*"))
        self.assertIsNone(rival_of(ONE_STATE, ("doubled", 0, 2), ""))
        self.assertIsNone(rival_of(EVEN, ("doubled", 1, 2), ""))

    def test_long_words(self):
        for machine, word in ((EVEN, "a" * 200), (EVEN, "abba" * 50), (RING, "abc" * 66), (THIRDS, "abb" * 66)):
            for rule in (("faded", 1, 3), ("open", 0, 3), ("closed", 0, 3), ("closed", 3, 3), ("doubled", 0, 2)):
                told = rival_of(machine, rule, word)
                if told is not None:
                    self.assertIs(has_word(machine, told[0][:200]) or len(told[0]) > 200, True)
                    self.assertIn(told[1], all_left_of(rule, word))
                    self.assertIn(told[1], all_left_of(rule, told[0]))
                    self.assertNotEqual(told[0], word)
                else:
                    self.assertIn((machine, rule[0]), [(RING, "doubled"), (THIRDS, "faded"), (THIRDS, "doubled"),
                                                       (THIRDS, "closed")], rule)
                    self.assertNotEqual((machine, rule), (THIRDS, ("closed", 0, 3)))
        self.assertIsNotNone(rival_of(ONE_STATE, ("closed", 0, 1), "a" * 200))
        for machine, word in ((EVEN, "a" * 201), (ONE_STATE, "a" * 201), (RING, "abc" * 67), (ALL_WORDS, "a" * 1000)):
            with self.assertRaises(NoWord):
                rival_of(machine, ("closed", 1, 1), word)

    def test_no_word(self):
        for word in ("b", "ab", "bbb", "c", "aac", "A", "a ", "?", "*", None, True, 0, (), ("a",), ["a"], [], {}, {"a": 1}, b"a"):
            with self.assertRaises(NoWord):
                rival_of(EVEN, ("closed", 1, 1), word)
        for word in ("", "a", "aa", "abb"):
            with self.assertRaises(NoWord):
                rival_of(TWO_WORDS, ("closed", 1, 1), word)
            with self.assertRaises(NoWord):
                rival_of(NO_WORDS, ("closed", 1, 1), word)

    def test_order_of_errors(self):
        for machine in odd_values() + [list(EVEN)]:
            with self.assertRaises(NoMachine):
                rival_of(machine, None, None)
            with self.assertRaises(NoMachine):
                unsafe_word(machine, None)
        for rule in odd_values() + [["closed", 1, 1], ("closed", 1, True)]:
            with self.assertRaises(NoRule):
                rival_of(EVEN, rule, "b")
            with self.assertRaises(NoRule):
                unsafe_word(EVEN, rule)


class UnsafeWordTest(unittest.TestCase):
    def check_machine(self, machine, most, exact):
        """With all words of at most most letters the unsafe ones of at most exact letters are known."""
        words = words_to(machine, most)
        for rule in RULES:
            told = unsafe_word(machine, rule)
            where = (machine, rule, told)
            self.assertEqual(told is None, is_sure(machine, rule), where)
            sizes = [len(word) for pair in pairs_among(rule, words) for word in pair if len(word) <= exact]
            if told is None or len(told) > exact:
                self.assertEqual(sizes, [], where)
            else:
                self.assertEqual(min(sizes, default=None), len(told), where)
            if told is not None:
                self.assertIs(type(told), str)
                self.assertIs(has_word(machine, told), True)
                other, reading = rival_of(machine, rule, told)
                self.assertTrue(reading in left_set(rule, told) and reading in left_set(rule, other), where)

    def test_machines_with_few_words(self):
        for machine in SHORT:
            self.check_machine(machine, 6, 6)

    def test_machines_with_many_words(self):
        for machine in LONG:
            self.check_machine(machine, 6, 3)
        for machine in [ONE_STATE] + some_machines("a", 4, 4) + some_machines("a", 6, 4):
            self.check_machine(machine, 14, 11)
        self.check_machine(ALL_ENDS, 5, 2)

    def test_few_cases(self):
        self.assertEqual(unsafe_word(ALL_WORDS, ("closed", 0, 1)), "")
        self.assertIn(unsafe_word(ALL_WORDS, ("closed", 1, 1)), ("a", "b"))
        self.assertIn(unsafe_word(ALL_WORDS, ("open", 3, 3)), [word for word in words_to(ALL_WORDS, 3) if len(word) == 3])
        self.assertIn(unsafe_word(TWO_WORDS, ("faded", 2, 2)), ("ab", "ba"))
        self.assertIsNone(unsafe_word(TWO_WORDS, ("faded", 1, 1)))
        self.assertIsNone(unsafe_word(NO_WORDS, ("closed", 0, 3)))
        self.assertEqual(unsafe_word(ONE_STATE, ("doubled", 0, 1)), "a")
        # A word of three letters is confused with one of six.
        self.assertEqual(unsafe_word(("ab", ((1, None), (2, None), (3, None), (None, 4), (None, 5), (None, 3)), (3,)),
                                     ("closed", 0, 3)), "aaa")


if __name__ == "__main__":
    unittest.main()
