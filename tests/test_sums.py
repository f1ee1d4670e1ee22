"""Point 9 and the interface's stage 8: differences of confused words, and check sums."""

import unittest
from itertools import product

from tearwords.errors import NoCheck, NoMachine, NoRule, NoWord
from tearwords.pairs import confused, is_sure
from tearwords.sums import best_check, check_sum, differences, is_enough
from tests.samples import ALL_ENDS, EVEN, ONE_STATE, RING, RULES, TWO_WORDS, neighbours, odd_values, strings_to
from tests.slow import differences_among, pairs_among, plain_difference, short_machines, some_machines, words_to

CLOSED = ("closed", 1, 1)
ALL_WORDS = ("ab", ((0, 0),), (0,))
SHORT = (
    [TWO_WORDS, ("a", ((None,),), (0,)), ("a", ((1,), (2,), (3,), (4,), (None,)), (0, 1, 2, 3, 4)), ("ab", ((1, 2), (1, 3), (3, 2), (None, None)), ())]
    + short_machines("a", 6, 4) + short_machines("ab", 3, 4) + short_machines("ab", 4, 6)
    + short_machines("ab", 5, 6) + short_machines("ab", 6, 2) + short_machines("abc", 3, 4) + short_machines("abc", 4, 4)
)
LONG = [EVEN, ALL_WORDS, ("ab", ((0, None),), (0,)), ("ab", ((1, 1), (2, 2), (0, 0)), (0,))] + some_machines("ab", 3, 8)
# All checks there are for so many letters.
CHECKS = {many: [(m, w) for m in (1, 2, 3, 4, 5) for w in product(range(m), repeat=many)] for many in (1, 2, 3)}


def wrong_checks(many):
    """What is no check for so many letters, but looks somewhat like one."""
    found = [
        (0, (0,) * many), (6, (0,) * many), (-1, (0,) * many), (10 ** 12, (0,) * many), (True, (0,) * many),
        (None, (0,) * many), ("2", (0,) * many), ((2,), (0,) * many), (2, (0,) * (many + 1)), (2, (0,) * (many - 1)),
        (2, ()), (2, [0] * many), [2, (0,) * many], (2,), ((0,) * many,), ((0,) * many, 2), (2, (0,) * many, 0),
        (2, 0), (2, None), (2, "0" * many), (0, ()), {2: (0,) * many}, 2, "", (2, {}), (2, {n: 0 for n in range(many)}),
    ]
    for at in range(many):
        for m, weight in ((1, 1), (2, 2), (5, 5), (3, -1), (3, True), (3, False), (2, None), (2, "1"), (2, (1,)), (2, [1])):
            found.append((m, (0,) * at + (weight,) + (0,) * (many - at - 1)))
    return found


class DifferencesTest(unittest.TestCase):
    def test_worked_example(self):
        machine = ('ab', ((1, 2), (None, 3), (3, None), (None, None)), (3,))
        self.assertEqual([differences(machine, ('closed', 1, 1)), best_check(machine, ('closed', 1, 1)),
                          check_sum(machine, (3, (1, 2)), 'abb')], [[(0, 0)], None, 2])

    def check_form(self, machine, told):
        self.assertIs(type(told), list)
        self.assertEqual(told, sorted(set(told)))
        for difference in told:
            self.assertEqual([type(difference)] + [type(number) for number in difference], [tuple] + [int] * len(machine[0]))
            self.assertEqual([number for number in difference if number != 0][:1],
                             [abs(number) for number in difference if number != 0][:1])

    def test_machines_with_few_words(self):
        found = set()
        for machine in SHORT:
            words = words_to(machine, 6)
            for rule in RULES:
                told = differences(machine, rule)
                self.check_form(machine, told)
                self.assertEqual(told, differences_among(machine, rule, words), (machine, rule))
                found.update(told)
        # Something of every kind was compared.
        self.assertTrue({(0, 0), (0, 0, 0), (1,), (3,), (1, -1), (0, 1), (1, -1, 0), (0, 1, -1)} <= found)

    def check_none_is_missing(self, machine, most):
        words = words_to(machine, most)
        for rule in RULES:
            told = differences(machine, rule)
            self.check_form(machine, told)
            self.assertEqual(set(differences_among(machine, rule, words)) - set(told), set(), (machine, rule))
            self.assertEqual(told == [], is_sure(machine, rule), (machine, rule))

    def test_machines_with_many_words(self):
        for machine in LONG:
            self.check_none_is_missing(machine, 5)
        for machine in [ONE_STATE] + some_machines("a", 3, 4) + some_machines("a", 6, 4):
            self.check_none_is_missing(machine, 14)
        for machine in [RING, ALL_ENDS] + some_machines("abc", 3, 3):
            self.check_none_is_missing(machine, 3)

    def test_all_words(self):
        # Two letters of which one is put in or left out, with words of any letters around them.
        self.assertEqual(differences(ALL_WORDS, ("closed", 1, 1)), [(0, 0), (1, -1)])
        self.assertEqual(differences(ALL_WORDS, ("faded", 1, 1)), [(1, -1)])
        self.assertEqual(differences(ALL_WORDS, ("faded", 2, 2)), [(0, 0), (1, -1), (2, -2)])
        self.assertEqual(differences(ALL_WORDS, ("open", 0, 1)), [(0, 1), (1, -1), (1, 0)])
        self.assertEqual(differences(ALL_WORDS, ("doubled", 0, 0)), [])
        self.assertEqual(differences(ONE_STATE, ("closed", 0, 3)), [(1,), (2,), (3,)])
        self.assertEqual(differences(ONE_STATE, ("closed", 1, 3)), [(1,), (2,)])
        self.assertEqual(differences(ONE_STATE, ("doubled", 0, 2)), [(1,), (2,)])
        self.assertEqual(differences(ONE_STATE, ("faded", 0, 3)), [])

    def test_words_with_the_same_letters(self):
        self.assertEqual(differences(TWO_WORDS, ("faded", 2, 2)), [(0, 0)])
        self.assertEqual(differences(TWO_WORDS, ("open", 0, 3)), [(0, 0)])
        self.assertEqual(differences(TWO_WORDS, ("closed", 2, 2)), [(0, 0)])
        self.assertEqual(differences(TWO_WORDS, ("doubled", 1, 1)), [])

    def test_a_changed_list_changes_no_later_one(self):
        for machine, rule in ((ALL_WORDS, ("closed", 1, 1)), (TWO_WORDS, ("doubled", 1, 1))):
            told = differences(machine, rule)
            right = list(told)
            self.assertIsNot(told, differences(machine, rule))
            told.append((7, 7))
            self.assertEqual(differences(machine, rule), right)


class CheckSumTest(unittest.TestCase):
    def test_any_word_of_the_letters(self):
        for machine, letters in ((EVEN, "ab"), (TWO_WORDS, "ab"), (ONE_STATE, "a"), (RING, "abc")):
            for check in CHECKS[len(letters)][::3]:
                for word in strings_to(letters, 3):
                    plain = 0
                    for letter in word:
                        plain += check[1][letters.index(letter)]
                    told = check_sum(machine, check, word)
                    self.assertIs(type(told), int)
                    self.assertEqual(told, plain % check[0])

    def test_words_that_are_not_of_the_machine(self):
        self.assertEqual(check_sum(TWO_WORDS, (5, (1, 3)), "aabbb"), 1)
        self.assertEqual(check_sum(("ab", ((None, None),), ()), (4, (0, 3)), "bb"), 2)

    def test_long_words(self):
        self.assertEqual(check_sum(EVEN, (5, (4, 3)), "ab" * 100), 0)
        self.assertEqual(check_sum(EVEN, (5, (4, 3)), "a" * 199 + "b"), (199 * 4 + 3) % 5)
        for word in ("a" * 201, "a" * 1000, "c", "A", "a ", "?", "*", " ", None, 0, True, (), ("a",), ["a"], [], {}, b"a"):
            with self.assertRaises(NoWord):
                check_sum(EVEN, (2, (0, 1)), word)

    def test_no_check(self):
        for machine in (ONE_STATE, EVEN, RING):
            for check in wrong_checks(len(machine[0])) + odd_values():
                with self.assertRaises(NoCheck, msg=check):
                    check_sum(machine, check, "a" * 201)
                with self.assertRaises(NoCheck, msg=check):
                    is_enough(machine, CLOSED, check)

    def test_neighbours_of_checks(self):
        for check in ((1, (0, 0)), (2, (1, 0)), (5, (4, 4)), (3, (0, 2))):
            for thing in neighbours(check):
                plainly = type(thing) is tuple and len(thing) == 2 and type(thing[0]) is int and type(thing[1]) is tuple
                if plainly and thing in CHECKS[2] and [type(weight) for weight in thing[1]] == [int, int]:
                    check_sum(EVEN, thing, "ab")
                else:
                    with self.assertRaises(NoCheck, msg=thing):
                        check_sum(EVEN, thing, "ab")

    def test_checks_of_other_letters(self):
        for many, machine in ((1, ONE_STATE), (2, EVEN), (3, RING)):
            for other in (1, 2, 3):
                if other != many:
                    for check in CHECKS[other][::5]:
                        with self.assertRaises(NoCheck):
                            check_sum(machine, check, "")
                        with self.assertRaises(NoCheck):
                            is_enough(machine, CLOSED, check)

    def test_order_of_errors(self):
        for machine in odd_values() + [list(EVEN)]:
            for call in (check_sum, is_enough):
                with self.assertRaises(NoMachine):
                    call(machine, None, None)
            for call in (differences, best_check):
                with self.assertRaises(NoMachine):
                    call(machine, None)
        for rule in odd_values() + [list(CLOSED), ("closed", True, 1)]:
            with self.assertRaises(NoRule):
                is_enough(EVEN, rule, None)
            for call in (differences, best_check):
                with self.assertRaises(NoRule):
                    call(EVEN, rule)


def plainly_enough(pairs, machine, check):
    for word, other in pairs:
        told = plain_difference(machine[0], word, other)
        if sum([number * weight for number, weight in zip(told, check[1])]) % check[0] == 0:
            return False
    return True


class EnoughTest(unittest.TestCase):
    def test_machines_with_few_words(self):
        seen = {True: 0, False: 0}
        best = set()
        for machine in SHORT:
            checks = CHECKS[len(machine[0])]
            words = words_to(machine, 6)
            for rule in RULES[1::3]:
                pairs = pairs_among(rule, words)
                for check in checks if len(checks) < 100 else checks[::3]:
                    right = plainly_enough(pairs, machine, check)
                    seen[right] += 1
                    self.assertIs(is_enough(machine, rule, check), right, (machine, rule, check))
                first = [check for check in checks if plainly_enough(pairs, machine, check)][:1]
                told = best_check(machine, rule)
                self.assertEqual([told], first or [None], (machine, rule))
                best.add(told)
        self.assertGreater(min(seen.values()), 100)
        self.assertTrue({None, (1, (0, 0)), (2, (0, 1)), (4, (1,))} <= best, best)

    def test_check_sums_tell_confused_words_apart(self):
        for machine in LONG:
            words = words_to(machine, 4)
            for rule in RULES[::3]:
                pairs = pairs_among(rule, words)
                told = best_check(machine, rule)
                for check in CHECKS[2]:
                    if is_enough(machine, rule, check):
                        self.assertLessEqual(told, check)
                        for word, other in pairs:
                            self.assertNotEqual(check_sum(machine, check, word), check_sum(machine, check, other))
                    else:
                        self.assertNotEqual(check, told)

    def test_sure_machines_need_none(self):
        for machine in (EVEN, ONE_STATE, RING):
            noughts = (0,) * len(machine[0])
            for rule in RULES:
                self.assertIs(best_check(machine, rule) == (1, noughts), is_sure(machine, rule), (machine, rule))
                self.assertIs(is_enough(machine, rule, (1, noughts)), is_sure(machine, rule))

    def test_first_by_m_and_then_by_weights(self):
        self.assertEqual(best_check(ALL_WORDS, ("faded", 1, 1)), (2, (0, 1)))
        self.assertEqual(best_check(ALL_WORDS, ("open", 0, 1)), (3, (1, 2)))
        self.assertEqual(best_check(ONE_STATE, ("closed", 0, 3)), (4, (1,)))
        self.assertEqual(best_check(ONE_STATE, ("closed", 0, 1)), (2, (1,)))
        self.assertEqual(best_check(ONE_STATE, ("closed", 1, 3)), (3, (1,)))
        self.assertIsNone(best_check(ALL_WORDS, ("closed", 1, 1)))
        self.assertIsNone(best_check(TWO_WORDS, ("faded", 2, 2)))
        self.assertIs(is_enough(ONE_STATE, ("closed", 0, 3), (5, (2,))), True)
        self.assertIs(is_enough(ONE_STATE, ("closed", 0, 3), (4, (2,))), False)
        self.assertEqual(best_check(EVEN, ("faded", 1, 1)), (1, (0, 0)))
        self.assertIsNone(confused(EVEN, ("faded", 1, 1)))


if __name__ == "__main__":
    unittest.main()
