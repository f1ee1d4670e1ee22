"""Point 5 and the interface's stage 5: words that are confused, and machines that are sure."""

import unittest

from tearwords.errors import NoMachine, NoRule
from tearwords.machines import has_word
from tearwords.pairs import confused, is_sure
from tearwords.tears import readings_of
from tests.samples import ALL_ENDS, EVEN, ONE_STATE, RING, RULES, THREE_LETTERS, TWO_WORDS, odd_values
from tests.slow import fewest_letters, some_machines, tears_to, words_to

NO_HINT = ("first", 0)
SMALL = (
    [EVEN, TWO_WORDS, ("ab", ((0, 0),), (0,)), ("ab", ((0, None),), (0,)), ("ab", ((None, None),), (0,)),
     ("ab", ((0, 0),), ()), ("ab", ((1, 1), (2, 2), (0, 0)), (0,)), ("ab", ((1, 1), (2, 2), (3, 3), (0, 0)), (0,)),
     ("ab", ((1, None), (None, 2), (None, 0)), (0,)), ("ab", ((1, 2), (1, 3), (3, 2), (None, None)), (3,))]
    + some_machines("ab", 1, 3) + some_machines("ab", 2, 10) + some_machines("ab", 3, 15) + some_machines("ab", 4, 25)
)


class PairsTest(unittest.TestCase):
    def check_pair(self, machine, rule, told):
        """Check a told pair on its own, without asking whether there is one with fewer letters."""
        self.assertIs(type(told), tuple)
        word, other, reading = told
        self.assertEqual([type(part) for part in told], [str, str, str])
        self.assertLess((len(word), word), (len(other), other))
        for text in (word, other):
            self.assertIs(has_word(machine, text), True, (machine, rule, told))
            self.assertIn(reading, readings_of(rule, text), (machine, rule, told))

    def check_against_slow_answers(self, machines, letters, most):
        for rule in RULES:
            tears = tears_to(rule, letters, most)
            for machine in machines:
                told = confused(machine, rule)
                self.assertIs(is_sure(machine, rule), told is None)
                fewest = fewest_letters(tears, words_to(machine, most), NO_HINT)
                if told is None:
                    self.assertIsNone(fewest, (machine, rule))
                    continue
                self.check_pair(machine, rule, told)
                many = len(told[0] + told[1])
                # Two confused words differ by at most three letters, so these are among all words looked through.
                if many + 3 <= 2 * most:
                    self.assertEqual(fewest, many, (machine, rule))
                elif fewest is not None:
                    self.assertGreaterEqual(fewest, many, (machine, rule))

    def test_worked_example(self):
        machine = ('ab', ((0, 1), (1, 0)), (0,))
        told = confused(machine, ('closed', 1, 1))
        self.assertEqual([is_sure(machine, ('closed', 1, 1)), len(told[0] + told[1]),
                          is_sure(machine, ('faded', 1, 1))], [False, 6, True])

    def test_two_letters(self):
        self.check_against_slow_answers(SMALL, "ab", 7)

    def test_one_letter(self):
        machines = [ONE_STATE] + some_machines("a", 1, 3) + some_machines("a", 2, 8) + some_machines("a", 4, 12)
        machines += some_machines("a", 6, 12)
        self.check_against_slow_answers(machines, "a", 20)

    def test_three_letters(self):
        machines = [RING, ALL_ENDS] + some_machines("abc", 2, 5) + some_machines("abc", 4, 8)
        self.check_against_slow_answers(machines, "abc", 5)

    def test_none_are_confused(self):
        for rule in RULES:
            for machine in (("ab", ((0, 0),), ()), ("ab", ((None, None),), (0,)), ("ab", ((0, 0), (0, 1)), (1,)),
                            ("a", ((1,), (None,)), (1,))):
                self.assertIsNone(confused(machine, rule), (machine, rule))
                self.assertIs(is_sure(machine, rule), True)

    def test_nothing_is_harmed(self):
        for kind in ("faded", "open", "closed", "doubled"):
            for machine in (EVEN, RING, ALL_ENDS, THREE_LETTERS, TWO_WORDS):
                # Under "open" an empty stretch still leaves a "*" where it stood, and the word around it.
                self.assertIsNone(confused(machine, (kind, 0, 0)))

    def test_one_letter_or_one_that_is_lost(self):
        self.assertEqual(confused(ONE_STATE, ("closed", 0, 1)), ("", "a", ""))
        self.assertEqual(confused(ONE_STATE, ("open", 0, 2)), ("", "a", "*"))
        self.assertEqual(confused(ONE_STATE, ("open", 1, 2)), ("a", "aa", "*"))
        self.assertEqual(confused(ONE_STATE, ("doubled", 0, 1)), ("a", "aa", "aa"))
        self.assertEqual(confused(ONE_STATE, ("doubled", 1, 2)), ("aa", "aaa", "aaaa"))
        self.assertIs(is_sure(ONE_STATE, ("faded", 0, 3)), True)
        self.assertIs(is_sure(ONE_STATE, ("closed", 2, 2)), True)
        self.assertIs(is_sure(ONE_STATE, ("open", 3, 3)), True)
        self.assertIs(is_sure(ONE_STATE, ("doubled", 1, 1)), True)

    def test_first_in_the_order_is_the_first_one(self):
        # b is shorter than aa and so the first one, though it is the greater string.
        machine = ("ab", ((1, 2), (2, None), (None, None)), (2,))
        self.assertEqual(confused(machine, ("open", 1, 2)), ("b", "aa", "*"))
        self.assertEqual(confused(machine, ("closed", 0, 2)), ("b", "aa", ""))
        self.assertEqual(confused(TWO_WORDS, ("faded", 2, 2)), ("ab", "ba", "??"))
        self.assertEqual(confused(TWO_WORDS, ("open", 0, 2)), ("ab", "ba", "*"))

    def test_fewest_letters_in_both_together(self):
        # The words are b, ba and aaab, and any two of them are confused.
        machine = ("ab", ((1, 4), (2, None), (3, None), (None, 5), (5, None), (None, None)), (4, 5))
        told = confused(machine, ("closed", 0, 3))
        self.assertEqual(len(told[0] + told[1]), 3)
        self.assertEqual(told[:2], ("b", "ba"))

    def test_far_apart(self):
        # Only words of six letters and more are confused, since five of six letters are all the same ones.
        machine = ("ab", ((1, None), (2, None), (3, None), (4, None), (5, None), (0, 0)), (0,))
        self.assertEqual(confused(machine, ("faded", 1, 1)), ("aaaaaa", "aaaaab", "aaaaa?"))
        self.assertEqual(len("".join(confused(machine, ("closed", 1, 3))[:2])), 12)
        self.assertIs(is_sure(machine, ("doubled", 0, 2)), True)

    def test_states_that_lead_nowhere(self):
        # b leads to a state from which no word ends, so there is just the word a.
        machine = ("ab", ((1, 2), (None, None), (2, 2)), (1,))
        for rule in RULES:
            self.assertIsNone(confused(machine, rule))

    def test_no_machine_and_no_rule(self):
        for call in (confused, is_sure):
            for machine in odd_values() + [list(EVEN), ("ab", ((0, 1), (1, 0)), (False,))]:
                with self.assertRaises(NoMachine):
                    call(machine, None)
            for rule in odd_values() + [["open", 0, 1], ("open", 0, True), ("open", False, 1), ("doubled", 0, 3)]:
                with self.assertRaises(NoRule):
                    call(EVEN, rule)


if __name__ == "__main__":
    unittest.main()
