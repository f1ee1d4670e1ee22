"""Point 1: what holds in general."""

import copy
import inspect
import unittest

from tearwords import books, fitting, hints, machines, pairs, tears
from tearwords.books import book_of, moves_of, shows_book
from tearwords.fitting import count_fits, fits, is_reading, restored
from tearwords.hints import confused_with, hinted, least_hint
from tearwords.machines import first_words, has_word, is_machine
from tearwords.pairs import confused, is_sure
from tearwords.tears import is_rule, readings_of, tear
from tests.samples import (
    ALL_ENDS, EVEN, RING, RULES, TWO_WORDS, deep, exchanged, neighbours, odd_values, plainly_machine, plainly_rule,
)
from tests.slow import FIRST, START, plainly_book

CLOSED = ("closed", 1, 1)
FADED = ("faded", 1, 1)


class ThingsTest(unittest.TestCase):
    def test_things_of_every_kind(self):
        for thing in odd_values():
            self.assertIs(is_machine(thing), False)
            self.assertIs(is_rule(thing), False)
            for nested in ([thing], (thing,), {"a": thing}, (thing, thing, thing), [thing, thing, thing]):
                self.assertIs(is_machine(nested), False)
                self.assertIs(is_rule(nested), False)

    def test_machines_with_parts_exchanged(self):
        few = [None, True, False, 0, 1, 3, 4, -1, 10 ** 12, "", "ab", "ba", (), (0,), (0, 0), [], [0], {}]
        for machine in (EVEN, TWO_WORDS):
            for part in few:
                for thing in exchanged(machine, part):
                    self.assertIs(is_machine(thing), plainly_machine(thing), thing)
                    self.assertIs(is_rule(thing), False)

    def test_rules_with_parts_exchanged(self):
        for rule in RULES:
            for part in odd_values()[:-3]:
                for thing in exchanged(rule, part):
                    self.assertIs(is_rule(thing), plainly_rule(thing), thing)
                    self.assertIs(is_machine(thing), False)

    def test_neighbours(self):
        for machine in (EVEN, TWO_WORDS, RING, ALL_ENDS):
            for thing in neighbours(machine):
                self.assertIs(is_machine(thing), plainly_machine(thing), thing)
        for rule in RULES:
            for thing in neighbours(rule):
                self.assertIs(is_rule(thing), plainly_rule(thing), thing)

    def test_what_calls_returned(self):
        told = [first_words(EVEN, 40), readings_of(("open", 0, 3), "abcabc"), tear(("open", 0, 3), "ab", 0, 0), True]
        for thing in told + [tuple(told[0]), [told], (told,), told[0][::-1]]:
            self.assertIs(is_machine(thing), False)
            self.assertIs(is_rule(thing), False)

    def test_is_reading_and_shows_book_with_what_calls_returned(self):
        book = book_of(EVEN, FADED)
        told = [book, moves_of(EVEN, FADED, START), fits(EVEN, CLOSED, ["bb"], 40), confused(EVEN, CLOSED), first_words(EVEN, 9),
                count_fits(EVEN, CLOSED, ["bb"]), least_hint(EVEN, FADED, "last"), book_of(EVEN, CLOSED), True, START, FIRST]
        for thing in told + [tuple(told), tuple(book), book[0], book[::-1], book[1:], book * 2, book + [None], [book] * 9]:
            for nested in (thing, [thing], (thing,), [[thing]], {"a": thing}, [FIRST, thing], (START, START, thing)):
                self.assertIs(is_reading(EVEN, FADED, nested), False)
                self.assertIs(shows_book(EVEN, FADED, nested), plainly_book(EVEN, FADED, nested))
        for word in fits(EVEN, CLOSED, ["bb"], 40):
            self.assertIs(is_reading(EVEN, CLOSED, word), True)
            self.assertIs(shows_book(EVEN, CLOSED, word), False)

    def test_is_reading_and_shows_book_with_nested_values(self):
        for kind in (list, tuple, dict):
            for depth in range(1, 13):
                for thing in (deep(depth, kind), [deep(depth, kind)], (FIRST, deep(depth, kind)), [FIRST, deep(depth, kind)],
                              [(deep(depth, kind), START, "=")], [(START, START, deep(depth, kind))],
                              [(START, ("whole", deep(depth, kind), ""), "=")], [((deep(depth, kind), 0, ""), START, "=")],
                              [(START, ("whole", 0, deep(depth, kind)), "=")]):
                    for rule in (FADED, CLOSED, ("open", 0, 1), ("doubled", 0, 2)):
                        self.assertIs(is_reading(EVEN, rule, thing), False)
                        self.assertIs(shows_book(EVEN, rule, thing), False)

    def test_things_are_not_changed(self):
        for thing in odd_values() + exchanged(list(EVEN), [0, [1]]) + exchanged(["open", 0, 1], {"a": [1]}):
            before = copy.deepcopy(thing)
            is_machine(thing)
            is_rule(thing)
            self.assertEqual(thing, before)
            self.assertIs(type(thing), type(before))

    def test_wrong_arguments_are_not_changed(self):
        for wrong in ([0, [1]], {"a": [1]}, [["ab"], [[0, 1]], [0]]):
            before = copy.deepcopy(wrong)
            for call, given in ((has_word, (wrong, "")), (has_word, (EVEN, wrong)), (first_words, (wrong, 1)),
                                (first_words, (EVEN, wrong)), (tear, (wrong, "a", 0, 1)), (tear, (RULES[1], wrong, 0, 1)),
                                (tear, (RULES[1], "a", wrong, 1)), (tear, (RULES[1], "a", 0, wrong)),
                                (readings_of, (wrong, "a")), (readings_of, (RULES[1], wrong))):
                with self.assertRaises(ValueError):
                    call(*given)
                self.assertEqual(wrong, before)

    def test_wrong_arguments_of_the_later_modules_are_not_changed(self):
        for wrong in ([0, [1]], {"a": [1]}, [["bb"], "bb"], ["bb", ["b"]], [["whole"], 0, ""]):
            before = copy.deepcopy(wrong)
            for call, given in ((is_reading, (wrong, CLOSED, "")), (is_reading, (EVEN, wrong, "")),
                                (fits, (wrong, CLOSED, ["a"], 1)), (fits, (EVEN, wrong, ["a"], 1)),
                                (fits, (EVEN, CLOSED, wrong, 1)), (fits, (EVEN, CLOSED, ["a"], wrong)),
                                (count_fits, (EVEN, CLOSED, wrong)), (restored, (EVEN, CLOSED, wrong)),
                                (confused, (wrong, CLOSED)), (is_sure, (EVEN, wrong)), (book_of, (EVEN, wrong)),
                                (moves_of, (EVEN, CLOSED, wrong)), (shows_book, (wrong, CLOSED, [])),
                                (hinted, (wrong, "a")), (hinted, (("first", 1), wrong)),
                                (confused_with, (EVEN, CLOSED, wrong)), (least_hint, (EVEN, CLOSED, wrong))):
                with self.assertRaises(ValueError):
                    call(*given)
                self.assertEqual(wrong, before)

    def test_arguments_of_the_later_modules_are_not_changed(self):
        readings = ["bb", "b", "bb"]
        fits(EVEN, CLOSED, readings, 40)
        count_fits(EVEN, CLOSED, readings)
        self.assertEqual(readings, ["bb", "b", "bb"])
        for machine, rule in ((EVEN, FADED), (TWO_WORDS, ("doubled", 0, 1))):
            book = book_of(machine, rule)[::-1] * 2
            for thing in (book, book[2:], [list(row) for row in book], [book], tuple(book), odd_values()):
                before = copy.deepcopy(thing)
                shows_book(machine, rule, thing)
                is_reading(machine, rule, thing)
                self.assertEqual(thing, before)
                self.assertIs(type(thing), type(before))

    def test_arguments_are_not_changed(self):
        machine, rule = copy.deepcopy(EVEN), ("faded", 0, 2)
        is_machine(machine)
        has_word(machine, "abba")
        first_words(machine, 40)
        is_rule(rule)
        tear(rule, "abba", 1, 2)
        readings_of(rule, "abba")
        self.assertEqual(machine, ('ab', ((0, 1), (1, 0)), (0,)))
        self.assertEqual(rule, ("faded", 0, 2))


class AnswersTest(unittest.TestCase):
    def check_new_lists(self, call, given):
        first = call(*given)
        second = call(*given)
        right = list(first)
        self.assertIs(type(first), list)
        self.assertEqual(first, second)
        self.assertIsNot(first, second)
        first.append("x")
        first[:1] = ["y", "z"]
        self.assertEqual(second, right)
        self.assertEqual(call(*given), right)

    def test_answers_are_new_lists(self):
        for call, given in ((first_words, (EVEN, 6)), (first_words, (EVEN, 0)), (first_words, (("a", ((0,),), ()), 3)),
                            (readings_of, (("closed", 0, 2), "aab")), (readings_of, (("closed", 1, 2), "")),
                            (fits, (EVEN, CLOSED, ["bb"], 40)), (fits, (EVEN, CLOSED, ["bb"], 0)),
                            (fits, (EVEN, CLOSED, ["a", "bbbb"], 40)), (moves_of, (EVEN, CLOSED, START)),
                            (moves_of, (TWO_WORDS, CLOSED, ("torn", 3, ""))), (book_of, (EVEN, FADED)),
                            (moves_of, (EVEN, ("doubled", 1, 2), ("twice", 0, "ab")))):
            self.check_new_lists(call, given)

    def test_parts_of_answers_never_change(self):
        for told in (fits(EVEN, CLOSED, ["bb"], 40), moves_of(EVEN, CLOSED, START), book_of(EVEN, FADED)):
            self.assertTrue(all([type(part) in (str, tuple) for part in told]))
        # A changed book is not the one of a later answer.
        book_of(EVEN, FADED).clear()
        self.assertIs(shows_book(EVEN, FADED, book_of(EVEN, FADED)), True)

    def test_equal_answers_for_equal_arguments(self):
        again = ("".join(["a", "b"]), tuple([tuple([0, 1]), tuple([1, 0])]), tuple([0]))
        for rule in RULES:
            rule_again = ("".join(list(rule[0])), rule[1], rule[2])
            self.assertEqual(confused(again, rule_again), confused(EVEN, rule))
            self.assertEqual(book_of(again, rule_again), book_of(EVEN, rule))
            self.assertEqual(moves_of(again, rule_again, ("whole", 0, "")), moves_of(EVEN, rule, START))
            for hint in (("first", 1), ("last", 2)):
                self.assertEqual(confused_with(again, rule_again, (hint[0], hint[1])), confused_with(EVEN, rule, hint))

    def test_later_answers_do_not_hang_on_errors(self):
        right = [fits(EVEN, CLOSED, ["bb"], 40), confused(EVEN, CLOSED), book_of(EVEN, FADED), least_hint(EVEN, FADED, "last")]
        for call, given in ((fits, (EVEN, CLOSED, ["b?"], 1)), (confused, (EVEN, ("closed", 0, 4))), (book_of, (None, FADED)),
                            (least_hint, (EVEN, FADED, "both")), (moves_of, (EVEN, FADED, None))):
            with self.assertRaises(ValueError):
                call(*given)
            self.assertEqual([fits(EVEN, CLOSED, ["bb"], 40), confused(EVEN, CLOSED), book_of(EVEN, FADED),
                              least_hint(EVEN, FADED, "last")], right)

    def test_kinds_of_answers(self):
        self.assertTrue(all([type(word) is str for word in first_words(EVEN, 40)]))
        self.assertTrue(all([type(reading) is str for reading in readings_of(("open", 0, 2), "abc")]))
        self.assertIs(type(tear(("faded", 0, 2), "abc", 0, 0)), str)
        self.assertIs(type(has_word(EVEN, "")), bool)

    def test_equal_arguments_made_anew(self):
        again = ("".join(["a", "b"]), tuple([tuple([0, 1]), tuple([1, 0])]), tuple([0]))
        self.assertEqual(first_words(again, 40), first_words(EVEN, 40))
        self.assertEqual(is_machine(again), is_machine(EVEN))
        rule = ("".join(["clo", "sed"]), 0, 1)
        self.assertEqual(readings_of(rule, "ab"), readings_of(("closed", 0, 1), "ab"))

    def test_answers_do_not_hang_on_earlier_calls(self):
        right = readings_of(("closed", 0, 2), "abab")
        for _ in range(2):
            with self.assertRaises(ValueError):
                readings_of(("closed", 0, 4), "abab")
            with self.assertRaises(ValueError):
                readings_of(("closed", 0, 2), "A")
            self.assertEqual(readings_of(("closed", 0, 2), "abab"), right)


class InterfaceTest(unittest.TestCase):
    def test_arguments_by_name(self):
        self.assertIs(is_machine(thing=EVEN), True)
        self.assertIs(has_word(word="bb", machine=EVEN), True)
        self.assertEqual(first_words(many=2, machine=EVEN), ["", "a"])
        self.assertIs(is_rule(thing=("open", 0, 1)), True)
        self.assertEqual(tear(size=2, at=1, word="abba", rule=("faded", 1, 2)), "a??a")
        self.assertEqual(readings_of(word="aab", rule=("closed", 1, 1)), ["aa", "ab"])
        self.assertIs(is_reading(thing="a*", rule=("open", 0, 1), machine=EVEN), True)
        self.assertEqual(fits(many=2, readings=["bb"], rule=CLOSED, machine=EVEN), ["abb", "bab"])
        self.assertEqual(count_fits(readings=["bb"], rule=CLOSED, machine=EVEN), 3)
        self.assertEqual(restored(reading="a", rule=CLOSED, machine=EVEN), "aa")
        self.assertIsNone(confused(rule=FADED, machine=EVEN))
        self.assertIs(is_sure(rule=CLOSED, machine=EVEN), False)
        self.assertEqual(moves_of(side=("torn", 1, ""), rule=CLOSED, machine=EVEN),
                         [("a", "a", ("torn", 1, "")), ("b", "b", ("torn", 0, ""))])
        self.assertIsNone(book_of(rule=CLOSED, machine=EVEN))
        self.assertIs(shows_book(thing=[], rule=CLOSED, machine=EVEN), False)
        self.assertEqual(hinted(stretch="abc", hint=("last", 1)), "c")
        self.assertIsNone(confused_with(hint=("last", 1), rule=FADED, machine=EVEN))
        self.assertEqual(least_hint(kind="last", rule=FADED, machine=EVEN), 0)

    def test_names_and_order_of_arguments(self):
        for module, name, wanted in (
            (machines, "is_machine", ["thing"]),
            (machines, "has_word", ["machine", "word"]),
            (machines, "first_words", ["machine", "many"]),
            (tears, "is_rule", ["thing"]),
            (tears, "tear", ["rule", "word", "at", "size"]),
            (tears, "readings_of", ["rule", "word"]),
            (fitting, "is_reading", ["machine", "rule", "thing"]),
            (fitting, "fits", ["machine", "rule", "readings", "many"]),
            (fitting, "count_fits", ["machine", "rule", "readings"]),
            (fitting, "restored", ["machine", "rule", "reading"]),
            (pairs, "confused", ["machine", "rule"]),
            (pairs, "is_sure", ["machine", "rule"]),
            (books, "moves_of", ["machine", "rule", "side"]),
            (books, "book_of", ["machine", "rule"]),
            (books, "shows_book", ["machine", "rule", "thing"]),
            (hints, "hinted", ["hint", "stretch"]),
            (hints, "confused_with", ["machine", "rule", "hint"]),
            (hints, "least_hint", ["machine", "rule", "kind"]),
        ):
            told = getattr(module, name)
            self.assertEqual(list(inspect.signature(told).parameters), wanted)
            self.assertEqual(told.__module__, module.__name__)


if __name__ == "__main__":
    unittest.main()
