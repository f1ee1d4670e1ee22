"""Point 1: what holds in general, as far as it speaks of machines and tears."""

import copy
import inspect
import unittest

from tearwords import machines, tears
from tearwords.machines import first_words, has_word, is_machine
from tearwords.tears import is_rule, readings_of, tear
from tests.samples import (
    ALL_ENDS, EVEN, RING, RULES, TWO_WORDS, exchanged, neighbours, odd_values, plainly_machine, plainly_rule,
)


class ThingsTest(unittest.TestCase):
    def test_things_of_every_kind(self):
        for thing in odd_values():
            self.assertIs(is_machine(thing), False)
            self.assertIs(is_rule(thing), False)
            for nested in ([thing], (thing,), {"a": thing}, (thing, thing, thing), [thing, thing, thing]):
                self.assertIs(is_machine(nested), False)
                self.assertIs(is_rule(nested), False)

    def test_machines_with_parts_exchanged(self):
        few = [None, True, False, 0, 1, 3, 4, -1, 10 ** 12, "", "ab", "ba", (), (0,), (0, 0), [], [0], {}]
        for machine in (EVEN, TWO_WORDS):
            for part in few:
                for thing in exchanged(machine, part):
                    self.assertIs(is_machine(thing), plainly_machine(thing), thing)
                    self.assertIs(is_rule(thing), False)

    def test_rules_with_parts_exchanged(self):
        for rule in RULES:
            for part in odd_values()[:-3]:
                for thing in exchanged(rule, part):
                    self.assertIs(is_rule(thing), plainly_rule(thing), thing)
                    self.assertIs(is_machine(thing), False)

    def test_neighbours(self):
        for machine in (EVEN, TWO_WORDS, RING, ALL_ENDS):
            for thing in neighbours(machine):
                self.assertIs(is_machine(thing), plainly_machine(thing), thing)
        for rule in RULES:
            for thing in neighbours(rule):
                self.assertIs(is_rule(thing), plainly_rule(thing), thing)

    def test_what_calls_returned(self):
        told = [first_words(EVEN, 40), readings_of(("open", 0, 3), "abcabc"), tear(("open", 0, 3), "ab", 0, 0), True]
        for thing in told + [tuple(told[0]), [told], (told,), told[0][::-1]]:
            self.assertIs(is_machine(thing), False)
            self.assertIs(is_rule(thing), False)

    def test_things_are_not_changed(self):
        for thing in odd_values() + exchanged(list(EVEN), [0, [1]]) + exchanged(["open", 0, 1], {"a": [1]}):
            before = copy.deepcopy(thing)
            is_machine(thing)
            is_rule(thing)
            self.assertEqual(thing, before)
            self.assertIs(type(thing), type(before))

    def test_wrong_arguments_are_not_changed(self):
        for wrong in ([0, [1]], {"a": [1]}, [["ab"], [[0, 1]], [0]]):
            before = copy.deepcopy(wrong)
            for call, given in ((has_word, (wrong, "")), (has_word, (EVEN, wrong)), (first_words, (wrong, 1)),
                                (first_words, (EVEN, wrong)), (tear, (wrong, "a", 0, 1)), (tear, (RULES[1], wrong, 0, 1)),
                                (tear, (RULES[1], "a", wrong, 1)), (tear, (RULES[1], "a", 0, wrong)),
                                (readings_of, (wrong, "a")), (readings_of, (RULES[1], wrong))):
                with self.assertRaises(ValueError):
                    call(*given)
                self.assertEqual(wrong, before)

    def test_arguments_are_not_changed(self):
        machine, rule = copy.deepcopy(EVEN), ("faded", 0, 2)
        is_machine(machine)
        has_word(machine, "abba")
        first_words(machine, 40)
        is_rule(rule)
        tear(rule, "abba", 1, 2)
        readings_of(rule, "abba")
        self.assertEqual(machine, ('ab', ((0, 1), (1, 0)), (0,)))
        self.assertEqual(rule, ("faded", 0, 2))


class AnswersTest(unittest.TestCase):
    def test_answers_are_new_lists(self):
        for call, given in ((first_words, (EVEN, 6)), (first_words, (EVEN, 0)), (first_words, (("a", ((0,),), ()), 3)),
                            (readings_of, (("closed", 0, 2), "aab")), (readings_of, (("closed", 1, 2), ""))):
            first = call(*given)
            second = call(*given)
            right = list(first)
            self.assertIs(type(first), list)
            self.assertEqual(first, second)
            self.assertIsNot(first, second)
            first.append("x")
            first[:1] = ["y", "z"]
            self.assertEqual(second, right)
            self.assertEqual(call(*given), right)

    def test_kinds_of_answers(self):
        self.assertTrue(all([type(word) is str for word in first_words(EVEN, 40)]))
        self.assertTrue(all([type(reading) is str for reading in readings_of(("open", 0, 2), "abc")]))
        self.assertIs(type(tear(("faded", 0, 2), "abc", 0, 0)), str)
        self.assertIs(type(has_word(EVEN, "")), bool)

    def test_equal_arguments_made_anew(self):
        again = ("".join(["a", "b"]), tuple([tuple([0, 1]), tuple([1, 0])]), tuple([0]))
        self.assertEqual(first_words(again, 40), first_words(EVEN, 40))
        self.assertEqual(is_machine(again), is_machine(EVEN))
        rule = ("".join(["clo", "sed"]), 0, 1)
        self.assertEqual(readings_of(rule, "ab"), readings_of(("closed", 0, 1), "ab"))

    def test_answers_do_not_hang_on_earlier_calls(self):
        right = readings_of(("closed", 0, 2), "abab")
        for _ in range(2):
            with self.assertRaises(ValueError):
                readings_of(("closed", 0, 4), "abab")
            with self.assertRaises(ValueError):
                readings_of(("closed", 0, 2), "A")
            self.assertEqual(readings_of(("closed", 0, 2), "abab"), right)


class InterfaceTest(unittest.TestCase):
    def test_arguments_by_name(self):
        self.assertIs(is_machine(thing=EVEN), True)
        self.assertIs(has_word(word="bb", machine=EVEN), True)
        self.assertEqual(first_words(many=2, machine=EVEN), ["", "a"])
        self.assertIs(is_rule(thing=("open", 0, 1)), True)
        self.assertEqual(tear(size=2, at=1, word="abba", rule=("faded", 1, 2)), "a??a")
        self.assertEqual(readings_of(word="aab", rule=("closed", 1, 1)), ["aa", "ab"])

    def test_names_and_order_of_arguments(self):
        for module, name, wanted in (
            (machines, "is_machine", ["thing"]),
            (machines, "has_word", ["machine", "word"]),
            (machines, "first_words", ["machine", "many"]),
            (tears, "is_rule", ["thing"]),
            (tears, "tear", ["rule", "word", "at", "size"]),
            (tears, "readings_of", ["rule", "word"]),
        ):
            told = getattr(module, name)
            self.assertEqual(list(inspect.signature(told).parameters), wanted)
            self.assertEqual(told.__module__, module.__name__)


if __name__ == "__main__":
    unittest.main()
