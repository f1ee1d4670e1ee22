"""Point 4 and the interface's stage 4: readings, and the words that fit them."""

import unittest
from itertools import combinations, product

from tearwords.errors import NoCount, NoMachine, NoReading, NoRule
from tearwords.fitting import count_fits, fits, is_reading, restored
from tests.samples import (
    ALL_ENDS, EVEN, ONE_STATE, RING, RULES, THREE_LETTERS, TWO_WORDS, odd_values, reads, strings_to,
)
from tests.slow import some_machines, tears_to

ALL_WORDS = ("ab", ((0, 0),), (0,))
SMALL = (
    [EVEN, TWO_WORDS, ALL_WORDS, ("ab", ((0, None),), (0,)), ("ab", ((None, None),), (0,)), ("ab", ((0, 0),), ())]
    + some_machines("ab", 2, 6) + some_machines("ab", 3, 8) + some_machines("ab", 4, 8)
)


def readings_to(rule, letters, most):
    """For each reading of at most so many signs, all strings of the letters that have it, in their order."""
    found = {}
    # A word has at most three letters more than its reading has signs.
    for word, marks in tears_to(rule, letters, most + 3).items():
        for reading in {reading for reading, _ in marks}:
            if len(reading) <= most:
                found.setdefault(reading, []).append(word)
    return found


class IsReadingTest(unittest.TestCase):
    def test_against_tearing_all_strings(self):
        for letters, signs, most in (("a", "ab?*", 4), ("ab", "ab?*", 4), ("abc", "abcd?*", 2)):
            machine = (letters, ((None,) * len(letters),), ())
            for rule in RULES:
                right = readings_to(rule, letters, most)
                for text in strings_to(signs, most):
                    self.assertIs(is_reading(machine, rule, text), text in right, (rule, text))

    def test_readings_of_strings_that_are_no_words(self):
        for machine in (TWO_WORDS, ("ab", ((None, None),), ()), ("ab", ((0, 0),), ())):
            self.assertIs(is_reading(machine, ("closed", 1, 1), "bbb"), True)
            self.assertIs(is_reading(machine, ("open", 3, 3), "aa*aa"), True)
            self.assertIs(is_reading(machine, ("faded", 1, 3), "??bbb"), True)
            self.assertIs(is_reading(machine, ("doubled", 1, 1), "bb"), True)

    def test_empty_reading(self):
        for rule in RULES:
            right = rule[0] == "closed" or rule[0] != "open" and rule[1] == 0
            self.assertIs(is_reading(EVEN, rule, ""), right, rule)

    def test_faded(self):
        rule = ("faded", 1, 2)
        for text in ("?", "??", "a?", "?b", "a??b", "??ab"):
            self.assertIs(is_reading(EVEN, rule, text), True, text)
        for text in ("", "a", "???", "?a?", "??a?", "a???b", "*", "?*", "a*", "c?", "?c", "A?", " ?"):
            self.assertIs(is_reading(EVEN, rule, text), False, text)
        self.assertIs(is_reading(EVEN, ("faded", 2, 3), "a?b"), False)
        self.assertIs(is_reading(EVEN, ("faded", 0, 2), "ab"), True)
        self.assertIs(is_reading(EVEN, ("faded", 0, 0), "ab"), True)
        self.assertIs(is_reading(EVEN, ("faded", 0, 0), "a?"), False)
        self.assertIs(is_reading(EVEN, ("faded", 0, 3), "?ab?"), False)
        self.assertIs(is_reading(EVEN, ("faded", 0, 3), "??aa??"), False)

    def test_open(self):
        for rule in (("open", 0, 0), ("open", 0, 3), ("open", 3, 3)):
            for text in ("*", "a*", "*b", "ab*ba"):
                self.assertIs(is_reading(EVEN, rule, text), True, text)
            for text in ("", "a", "**", "a**b", "*a*", "?", "a?", "*?", "c*", "*c", "* "):
                self.assertIs(is_reading(EVEN, rule, text), False, text)

    def test_closed(self):
        for rule in (("closed", 0, 0), ("closed", 0, 3), ("closed", 3, 3)):
            for text in ("", "a", "b", "abba"):
                self.assertIs(is_reading(EVEN, rule, text), True, text)
            for text in ("*", "a*b", "?", "a?", "c", "abc", "A", " ", "a "):
                self.assertIs(is_reading(EVEN, rule, text), False, text)

    def test_doubled(self):
        for text, once, twice in (("a", False, False), ("aa", True, False), ("ab", False, False), ("aba", False, False),
                                  ("abab", False, True), ("aabb", True, False), ("aaaa", True, True),
                                  ("baba", False, True), ("abbab", True, False), ("babab", False, True)):
            self.assertIs(is_reading(EVEN, ("doubled", 1, 1), text), once, text)
            self.assertIs(is_reading(EVEN, ("doubled", 2, 2), text), twice, text)
            self.assertIs(is_reading(EVEN, ("doubled", 1, 2), text), once or twice, text)
            self.assertIs(is_reading(EVEN, ("doubled", 0, 2), text), True, text)
        for text in ("cc", "a??", "aa*", "aac", "AA"):
            for least in (0, 1, 2):
                self.assertIs(is_reading(EVEN, ("doubled", least, 2), text), False, text)
        # Three different letters without any double, however long.
        self.assertIs(is_reading(RING, ("doubled", 1, 2), "abcacb" * 30), False)
        self.assertIs(is_reading(RING, ("doubled", 1, 2), "abcacb" * 30 + "b"), True)

    def test_more_than_200_signs(self):
        for many in (200, 201, 1000, 100000):
            self.assertIs(is_reading(EVEN, ("closed", 0, 1), "ab" * (many // 2)), True)
            self.assertIs(is_reading(EVEN, ("open", 0, 1), "a" * (many - 1) + "*"), True)
            self.assertIs(is_reading(EVEN, ("faded", 1, 3), "a" * (many - 3) + "???"), True)
            self.assertIs(is_reading(EVEN, ("doubled", 1, 1), "ab" * (many // 2) + "b"), True)
            self.assertIs(is_reading(EVEN, ("doubled", 1, 1), "ab" * (many // 2)), False)
            self.assertIs(is_reading(EVEN, ("closed", 0, 1), "ab" * (many // 2) + "c"), False)
            self.assertIs(is_reading(EVEN, ("faded", 0, 3), "?" * many), False)
            self.assertIs(is_reading(EVEN, ("open", 0, 3), "*" * many), False)

    def test_values_of_every_kind(self):
        for rule in RULES:
            for thing in odd_values():
                # Of these only strings of the letters can be readings; "ab" has no double.
                right = thing == "" and is_reading(EVEN, rule, "") or thing in ("a", "ab") and (
                    rule[0] == "closed" or rule[0] != "open" and rule[1] == 0)
                self.assertIs(is_reading(EVEN, rule, thing), bool(right), (rule, thing if thing == "" else None))

    def test_no_machine_and_no_rule(self):
        with self.assertRaises(NoMachine):
            is_reading(list(EVEN), ("open", 0, 4), "*")
        with self.assertRaises(NoRule):
            is_reading(EVEN, ("open", 0, 4), None)


class FitsTest(unittest.TestCase):
    def test_worked_example(self):
        machine = ('ab', ((0, 1), (1, 0)), (0,))
        rule = ('closed', 1, 1)
        told = [fits(machine, rule, ['bb'], 5), count_fits(machine, rule, ['bb']), restored(machine, rule, 'a')]
        self.assertEqual(told, [['abb', 'bab', 'bba'], 3, 'aa'])

    def test_one_reading_against_tearing_all_strings(self):
        for rule in RULES:
            right = readings_to(rule, "ab", 4)
            for machine in SMALL:
                mine = {word for word in strings_to("ab", 7) if reads(machine, word)}
                for reading, strings in right.items():
                    words = [word for word in strings if word in mine]
                    self.assertEqual(fits(machine, rule, [reading], 40), words[:40], (machine, rule, reading))
                    self.assertEqual(count_fits(machine, rule, [reading]), len(words))
                    only = words[0] if len(words) == 1 else None
                    self.assertEqual(restored(machine, rule, reading), only)

    def test_three_letters(self):
        for machine in (RING, ALL_ENDS, ("abc", ((0, 0, 0),), (0,))):
            for rule in RULES:
                for reading, strings in readings_to(rule, "abc", 2).items():
                    words = [word for word in strings if reads(machine, word)]
                    self.assertEqual(fits(machine, rule, [reading], 40), words[:40], (machine, rule, reading))
                    self.assertEqual(count_fits(machine, rule, [reading]), len(words))

    def test_several_readings(self):
        for rule in (("closed", 0, 2), ("open", 0, 1), ("doubled", 0, 2), ("faded", 0, 2), ("closed", 1, 1)):
            right = readings_to(rule, "ab", 3)
            for machine in (EVEN, ALL_WORDS):
                for some in combinations(list(right), 2):
                    words = [word for word in strings_to("ab", 6)
                             if reads(machine, word) and all([word in right[reading] for reading in some])]
                    self.assertEqual(fits(machine, rule, list(some), 40), words, (machine, rule, some))
                    self.assertEqual(fits(machine, rule, list(some[::-1]), 40), words)
                    self.assertEqual(count_fits(machine, rule, list(some)), len(words))

    def test_six_readings(self):
        rule = ("closed", 1, 1)
        # Each letter of the word is the one that is left out in one of these.
        readings = ["bcabc", "acabc", "ababc", "abcbc", "abcac", "abcab"]
        machine = ("abc", ((0, 0, 0),), (0,))
        self.assertEqual(fits(machine, rule, readings, 40), ["abcabc"])
        self.assertEqual(count_fits(machine, rule, readings), 1)
        self.assertEqual(fits(machine, rule, ["bcabc"] * 6, 40), fits(machine, rule, ["bcabc"], 40))
        self.assertEqual(fits(machine, rule, readings[:5] + ["aaaaa"], 40), [])
        self.assertEqual(count_fits(machine, rule, readings[:5] + ["aaaaa"]), 0)

    def test_each_word_once(self):
        # aaa leaves aa wherever it is torn.
        self.assertEqual(fits(ALL_WORDS, ("closed", 1, 1), ["aa"], 40), ["aaa", "aab", "aba", "baa"])
        self.assertEqual(count_fits(ALL_WORDS, ("closed", 1, 1), ["aa"]), 4)
        self.assertEqual(count_fits(ALL_WORDS, ("doubled", 0, 2), ["aaaa"]), 3)
        self.assertEqual(count_fits(ALL_WORDS, ("closed", 0, 0), ["abab"]), 1)
        self.assertEqual(count_fits(ALL_WORDS, ("doubled", 0, 0), ["abab"]), 1)

    def test_many(self):
        rule = ("closed", 0, 3)
        right = fits(THREE_LETTERS, rule, ["cmz"], 40)
        self.assertEqual(len(right), 40)
        self.assertGreater(count_fits(THREE_LETTERS, rule, ["cmz"]), 40)
        for many in range(41):
            self.assertEqual(fits(THREE_LETTERS, rule, ["cmz"], many), right[:many])
        self.assertEqual(fits(EVEN, ("closed", 1, 1), ["bb"], 0), [])
        self.assertEqual(fits(EVEN, ("closed", 1, 1), ["bb"], 1), ["abb"])
        self.assertEqual(fits(EVEN, ("closed", 1, 1), ["bb"], 3), fits(EVEN, ("closed", 1, 1), ["bb"], 40))

    def test_no_count(self):
        for many in (-1, 41, 10 ** 12, -10 ** 12, True, False, None, "1", (), [1], {}):
            with self.assertRaises(NoCount):
                fits(EVEN, ("closed", 1, 1), ["bb"], many)

    def test_long_readings(self):
        self.assertEqual(fits(ONE_STATE, ("closed", 0, 3), ["a" * 200], 40), ["a" * n for n in (200, 201, 202, 203)])
        self.assertEqual(count_fits(ONE_STATE, ("closed", 0, 3), ["a" * 200]), 4)
        self.assertEqual(restored(ONE_STATE, ("closed", 3, 3), "a" * 200), "a" * 203)
        self.assertEqual(restored(ONE_STATE, ("doubled", 2, 2), "a" * 200), "a" * 198)
        self.assertEqual(restored(ONE_STATE, ("faded", 0, 3), "a" * 198 + "??"), "a" * 200)
        self.assertEqual(fits(ONE_STATE, ("open", 0, 3), ["a" * 199 + "*"], 40), ["a" * n for n in (199, 200, 201, 202)])
        # One more letter at one of 201 places: another string for each place where a stretch of equal letters begins.
        reading = "ab" * 100
        strings = {reading[:at] + letter + reading[at:] for at in range(201) for letter in "ab"}
        self.assertEqual(count_fits(ALL_WORDS, ("closed", 1, 1), [reading]), len(strings))
        self.assertEqual(fits(ALL_WORDS, ("closed", 1, 1), [reading], 40), sorted(strings)[:40])
        for rule, reading in ((("closed", 0, 3), "a" * 201), (("open", 0, 3), "a" * 200 + "*"),
                              (("faded", 0, 3), "a" * 200 + "?"), (("doubled", 0, 2), "a" * 201),
                              (("closed", 0, 3), "a" * 1000)):
            self.assertIs(is_reading(ONE_STATE, rule, reading), True)
            with self.assertRaises(NoReading):
                fits(ONE_STATE, rule, [reading], 1)
            with self.assertRaises(NoReading):
                fits(ONE_STATE, rule, [reading[1:], reading], 1)
            with self.assertRaises(NoReading):
                count_fits(ONE_STATE, rule, [reading])
            with self.assertRaises(NoReading):
                restored(ONE_STATE, rule, reading)
            self.assertGreater(count_fits(ONE_STATE, rule, [reading[1:201]]), 0)

    def test_no_list_of_readings(self):
        rule = ("closed", 1, 1)
        for readings in ([], ["bb"] * 7, ["bb"] * 8, ("bb",), ("bb", "bb"), "bb", "b", None, True, 1, {"bb": "bb"}, {},
                         [["bb"]], [("bb",)], [None], ["bb", None], ["bb", "b?"], ["*"], ["bb", "bc"], [0, "bb"],
                         ["bb"] * 5 + [True], [{}], [b"bb"], list(range(100000))):
            with self.assertRaises(NoReading):
                fits(EVEN, rule, readings, 1)
            with self.assertRaises(NoReading):
                count_fits(EVEN, rule, readings)
        self.assertEqual(count_fits(EVEN, rule, ["bb"] * 6), 3)

    def test_no_reading(self):
        for rule, wrong in ((("closed", 1, 1), "b?"), (("open", 0, 1), "b"), (("open", 0, 1), "b**"),
                            (("faded", 1, 2), "b"), (("faded", 0, 3), "?b?"), (("faded", 0, 3), "????"),
                            (("doubled", 1, 2), "ab"), (("doubled", 0, 2), "c")):
            with self.assertRaises(NoReading):
                restored(EVEN, rule, wrong)
            with self.assertRaises(NoReading):
                fits(EVEN, rule, [wrong], 1)
        for thing in odd_values():
            if thing not in ("", "a", "ab"):
                with self.assertRaises(NoReading):
                    restored(EVEN, ("closed", 1, 1), thing)
                with self.assertRaises(NoReading):
                    count_fits(EVEN, ("closed", 1, 1), [thing])

    def test_order_of_errors(self):
        for call, behind in ((fits, ([], -1)), (count_fits, ([],)), (restored, ("?",)), (is_reading, (None,))):
            for machine in odd_values() + [list(EVEN)]:
                with self.assertRaises(NoMachine):
                    call(machine, None, *behind)
            for rule in odd_values() + [["closed", 1, 1], ("closed", True, 1)]:
                with self.assertRaises(NoRule):
                    call(EVEN, rule, *behind)
        with self.assertRaises(NoReading):
            fits(EVEN, ("closed", 1, 1), ["?"], -1)
        with self.assertRaises(NoReading):
            fits(EVEN, ("closed", 1, 1), [], True)


class RestoredTest(unittest.TestCase):
    def test_none_one_and_several(self):
        rule = ("closed", 1, 1)
        self.assertIsNone(restored(TWO_WORDS, rule, "aa"))
        self.assertIsNone(restored(TWO_WORDS, rule, "a"))
        self.assertEqual(restored(TWO_WORDS, ("open", 1, 1), "a*"), "ab")
        self.assertEqual(restored(TWO_WORDS, ("faded", 1, 1), "?a"), "ba")
        self.assertIsNone(restored(TWO_WORDS, ("faded", 2, 2), "??"))
        self.assertIsNone(restored(EVEN, rule, "bb"))
        self.assertEqual(restored(EVEN, rule, "a"), "aa")

    def test_the_empty_word(self):
        machine = ("ab", ((None, None),), (0,))
        for rule, reading in ((("closed", 0, 1), ""), (("open", 0, 3), "*"), (("faded", 0, 1), ""), (("doubled", 0, 2), "")):
            self.assertEqual(restored(machine, rule, reading), "")
        for rule, reading in ((("closed", 1, 1), ""), (("open", 1, 3), "*"), (("faded", 0, 1), "?"), (("doubled", 0, 2), "aa")):
            self.assertIsNone(restored(machine, rule, reading))

    def test_a_word_of_which_a_reading_is_not(self):
        # The other strings with the reading are no words.
        for signs in product("ab", repeat=4):
            word = "".join(signs)
            states = tuple([tuple([at + 1 if sign == letter else None for letter in "ab"])
                            for at, sign in enumerate(word)])
            machine = ("ab", states + ((None, None),), (4,))
            for rule in RULES:
                for reading, _ in tears_to(rule, "ab", 4)[word] if rule[2] == 1 else ():
                    self.assertEqual(restored(machine, rule, reading), word)


if __name__ == "__main__":
    unittest.main()
