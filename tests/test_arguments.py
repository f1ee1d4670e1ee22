"""Points 1 to 3 over the whole program: arguments, the order of errors, and what is no machine or no rule."""

import copy
import inspect
import itertools
import unittest

from tearwords import errors
from tearwords.books import book_of, moves_of, shows_book
from tearwords.desks import Desk, trial
from tearwords.fitting import count_fits, fits, is_reading, restored
from tearwords.hints import confused_with, hinted, least_hint
from tearwords.kinds import as_closed, as_open
from tearwords.machines import first_words, has_word, is_machine
from tearwords.pairs import confused, is_sure
from tearwords.safety import greatest_most, rival_of, unsafe_word
from tearwords.sums import best_check, check_sum, differences, is_enough
from tearwords.tears import is_rule, readings_of, tear
from tests.samples import (
    ALL_ENDS, EVEN, RULES, TWO_WORDS, deep, exchanged, neighbours, odd_values, plainly_machine, plainly_rule,
)

CLOSED = ("closed", 0, 1)
LONG = "a" * 201


class Argument:
    """The name of an argument, a right value, some wrong ones, and the error that is raised for them."""

    def __init__(self, name, right, wrong, error):
        self.name = name
        self.right = right
        self.wrong = wrong
        self.error = error


def machine(right=EVEN):
    return Argument("machine", right, [None, 0, [], {}, list(EVEN), ("ab", EVEN[1], (2,)), CLOSED], errors.NoMachine)


def rule(right=CLOSED):
    return Argument("rule", right, [None, 0, "open", [], list(right), ("open", 0, True), ("shut", 0, 1), EVEN], errors.NoRule)


def word(right, *wrong, name="word"):
    return Argument(name, right, [None, 0, True, (), ["a"], "A", "?", LONG] + list(wrong), errors.NoWord)


def count(name, right, *wrong):
    return Argument(name, right, [None, "1", True, False, (1,), [1], -1, 41] + list(wrong), errors.NoCount)


READINGS = Argument("readings", ["a", "aa"], [None, [], ("a",), "a", ["a", None], ["a"] * 7, ["a", LONG]], errors.NoReading)
READING = Argument("reading", "aa", [None, 0, True, ["aa"], ("aa",), "c", "a?", LONG], errors.NoReading)
HINT = Argument("hint", ("first", 1), [None, "first", ["first", 1], ("first", 4), ("last", True)], errors.NoHint)
CHECK = Argument("check", (2, (0, 1)), [None, 2, [2, (0, 1)], (2, [0, 1]), (6, (0, 1)), (2, (0, 2)), (1, (False, 0))], errors.NoCheck)
SIDE = Argument("side", ("whole", 0, ""), [None, "whole", ["whole", 0, ""], ("whole", 2, ""), ("whole", True, "")], errors.NoSide)
HINT_KIND = Argument("kind", "last", [None, 0, "", "open", ["last"], ("last",), True], errors.NoHint)
KIND = Argument("kind", "doubled", [None, 0, "", "first", ["open"], ("open",), {}, True], errors.NoKind)
GUARDED = Argument("guarded", True, [None, 0, 1, "", "True", (), [True]], errors.NoKind)
THINGS = Argument("things", [("admit", "aa"), ["undo"]], [None, 0, "undo", ("undo",), {}, [[[[[[]]]]]]], errors.NoThings)
STRETCH = [Argument("at", 1, [None, -1, 2, True, "1", [1]], errors.NoStretch),
           Argument("size", 1, [None, -1, 2, True, "1", [1]], errors.NoStretch)]
THING = Argument("thing", [1], [], None)


def desk():
    return Argument("desk", Desk(EVEN, CLOSED), [None, 0, Desk, [], (EVEN, CLOSED)], errors.NoDesk)


def shared(right, *wrong):
    return Argument("reading", right, [None, 0, True, [right], (right,), right + " "] + list(wrong), errors.NoReading)


CALLS = [
    (is_machine, [THING]), (is_rule, [THING]),
    (has_word, [machine(), word("ab", "c")]),
    (first_words, [machine(), count("many", 3)]),
    (tear, [rule(), word("ab")] + STRETCH),
    (readings_of, [rule(), word("ab")]),
    (is_reading, [machine(), rule(), THING]),
    (fits, [machine(), rule(), READINGS, count("many", 3)]),
    (count_fits, [machine(), rule(), READINGS]),
    (restored, [machine(), rule(), READING]),
    (confused, [machine(), rule()]), (is_sure, [machine(), rule()]),
    (moves_of, [machine(), rule(), SIDE]), (book_of, [machine(), rule()]), (shows_book, [machine(), rule(), THING]),
    (hinted, [HINT, word("ab", name="stretch")]),
    (confused_with, [machine(), rule(), HINT]), (least_hint, [machine(), rule(), HINT_KIND]),
    (differences, [machine(), rule()]), (check_sum, [machine(), CHECK, word("ab", "c")]),
    (is_enough, [machine(), rule(), CHECK]), (best_check, [machine(), rule()]),
    (greatest_most, [machine(), KIND, count("least", 1, 3, 4)]),
    (rival_of, [machine(), rule(), word("abb", "ab", "c")]), (unsafe_word, [machine(), rule()]),
    (as_open, [rule(("faded", 1, 1)), word("aa"), word("ab", "aa", name="other"), shared("a?", "a", "?a")]),
    (as_closed, [rule(("open", 0, 1)), word("aa"), word("ab", "aa", name="other"), shared("a*", "a", "*a")]),
    (Desk, [machine(), rule(), GUARDED]),
    (trial, [desk(), THINGS]),
]
METHODS = [("admit", word("abb", "ab", "c")), ("strike", word("aa", "ab", "c")), ("bear", count("most", 1, 4)), ("ask", READING)]


def plain(answer):
    """The answer, or what can be compared of it."""
    return (answer.words(), answer.rule) if isinstance(answer, Desk) else answer


class ArgumentsTest(unittest.TestCase):
    def test_all_of_the_interface_is_called(self):
        self.assertEqual(len({call.__name__ for call, _ in CALLS}), 29)
        self.assertEqual({call.__module__[10:] for call, _ in CALLS},
                         {"machines", "tears", "fitting", "pairs", "books", "hints", "sums", "safety", "kinds", "desks"})

    def test_names_and_order(self):
        for call, arguments in CALLS:
            self.assertEqual(list(inspect.signature(call).parameters), [some.name for some in arguments], call)
        for name, argument in METHODS:
            self.assertEqual(list(inspect.signature(Desk.__dict__[name]).parameters), ["self", argument.name])

    def test_by_name(self):
        for call, arguments in CALLS:
            right = plain(call(*[some.right for some in arguments]))
            self.assertEqual(plain(call(**{some.name: some.right for some in arguments[::-1]})), right, call)
        for name, argument in METHODS:
            one, other = Desk(EVEN, CLOSED), Desk(EVEN, CLOSED)
            for some in (one, other):
                some.admit(word="aa")
            self.assertEqual(getattr(one, name)(argument.right), getattr(other, name)(**{argument.name: argument.right}))
            self.assertEqual([one.words(), one.rule], [other.words(), other.rule])

    def test_wrong_arguments(self):
        for call, arguments in CALLS:
            right = [some.right for some in arguments]
            for at, some in enumerate(arguments):
                for wrong in some.wrong:
                    with self.assertRaises(some.error, msg=(call, wrong)):
                        call(*right[:at], wrong, *right[at + 1:])

    def test_the_earliest_argument_counts(self):
        for call, arguments in CALLS:
            right = [some.right for some in arguments]
            for at, later in itertools.combinations(range(len(arguments)), 2):
                for wrong in arguments[at].wrong:
                    for other in arguments[later].wrong:
                        given = right[:at] + [wrong] + right[at + 1:later] + [other] + right[later + 1:]
                        with self.assertRaises(arguments[at].error, msg=(call, wrong, other)):
                            call(*given)
                        with self.assertRaises(arguments[at].error, msg=(call, wrong, other)):
                            call(**{some.name: value for some, value in zip(arguments, given)})

    def test_methods_with_wrong_arguments(self):
        led = Desk(EVEN, CLOSED)
        led.admit("aa")
        for name, argument in METHODS:
            for wrong in argument.wrong:
                with self.assertRaises(argument.error, msg=(name, wrong)):
                    getattr(led, name)(wrong)
        self.assertEqual([led.words(), led.rule], [["aa"], CLOSED])

    def test_each_error_is_derived_from_tear_error(self):
        for call, arguments in CALLS:
            for some in arguments:
                self.assertTrue(some.error is None or issubclass(some.error, errors.TearError))

    def test_arguments_are_not_changed(self):
        for call, arguments in CALLS:
            given = [some.right for some in arguments]
            before = copy.deepcopy([value for value in given if not isinstance(value, Desk)])
            for _ in range(2):
                call(*given)
                self.assertEqual([value for value in given if not isinstance(value, Desk)], before)
            for at, some in enumerate(arguments):
                for wrong in some.wrong:
                    before = copy.deepcopy(wrong)
                    with self.assertRaises(some.error):
                        call(*given[:at], wrong, *given[at + 1:])
                    self.assertEqual(wrong, before)
                    self.assertIs(type(wrong), type(before))

    def test_equal_answers_and_new_lists(self):
        for call, arguments in CALLS:
            given = [some.right for some in arguments]
            told, again = plain(call(*given)), plain(call(*copy.deepcopy(given)))
            self.assertEqual(told, again, call)
            self.assertIs(type(told), type(again))
            if isinstance(told, list):
                self.assertIsNot(told, again)
                told.append("x")
                told[0:1] = []
                self.assertEqual(call(*given), again)


class NoMachineNoRuleTest(unittest.TestCase):
    def calls_with(self, name):
        """All calls with an argument of this name, and where it stands."""
        for call, arguments in CALLS:
            names = [some.name for some in arguments]
            if name in names:
                yield call, [some.right for some in arguments], names.index(name)

    def wrong_machines(self):
        parts = [None, True, False, -1, 6, "", "ba", "a", (), [], [0], (True,), {}]
        found = [thing for start in (EVEN, TWO_WORDS) for part in parts for thing in exchanged(start, part)]
        found += [thing for start in (EVEN, ALL_ENDS) for thing in neighbours(start)] + odd_values()[:-3]
        return [thing for thing in found if not plainly_machine(thing)]

    def test_machines_with_a_part_replaced(self):
        wrong = self.wrong_machines()
        self.assertGreater(len(wrong), 400)
        for number, (call, right, at) in enumerate(self.calls_with("machine")):
            for thing in wrong[number % 3::3]:
                with self.assertRaises(errors.NoMachine, msg=(call, thing)):
                    call(*right[:at], thing, *[None] * (len(right) - at - 1))

    def test_rules_with_a_part_replaced(self):
        parts = [None, True, False, -1, 4, "", "shut", (), [], (1,), {}]
        wrong = [thing for start in RULES for part in parts for thing in exchanged(start, part)]
        wrong += [thing for start in RULES for thing in neighbours(start)] + odd_values()[:-3]
        wrong = [thing for thing in wrong if not plainly_rule(thing)]
        self.assertGreater(len(wrong), 400)
        for number, (call, right, at) in enumerate(self.calls_with("rule")):
            for thing in wrong[number % 5::5]:
                with self.assertRaises(errors.NoRule, msg=(call, thing)):
                    call(*right[:at], thing, *[None] * (len(right) - at - 1))

    def test_machine_first(self):
        for call, right, at in self.calls_with("rule"):
            if at == 1:
                for thing in ([], None, list(EVEN), deep(12, tuple)):
                    with self.assertRaises(errors.NoMachine):
                        call(thing, None, *right[2:])

    def test_all_machines_and_rules_are_taken(self):
        for call, right, at in self.calls_with("machine"):
            for thing in (("a", ((None,),), ()), ("xyz", ((0, 0, 0),), (0,)), ALL_ENDS):
                try:
                    call(*right[:at], thing, *right[at + 1:])
                except (errors.NoWord, errors.NoReading, errors.NoCheck, errors.NoSide):
                    # Words and the like of another machine.
                    pass
        for call, right, at in self.calls_with("rule"):
            for thing in RULES:
                try:
                    call(*right[:at], thing, *right[at + 1:])
                except (errors.NoReading, errors.NoSide, errors.NoStretch):
                    pass
                except errors.NoRule:
                    self.assertIn((call, thing[0] == "faded"), [(as_open, False), (as_closed, thing[0] == "faded")])


class ThingsTest(unittest.TestCase):
    def things(self):
        """What calls return, also with parts put in, left out and turned round."""
        led = Desk(EVEN, ("closed", 1, 1))
        for some in ("abb", "bab"):
            led.admit(some)
        told = [plain(call(*[some.right for some in arguments])) for call, arguments in CALLS]
        told += [led, led.words(), led.rivals(), led.ask("bb"), led.rule, book_of(EVEN, ("faded", 0, 1)),
                 trial(led, [[[[[("ask", "bb")]]]]])]
        return told + [thing for part in told if isinstance(part, (list, tuple)) and len(part) > 1 for thing in neighbours(part)[:9]]

    def test_things_of_every_kind(self):
        for thing in self.things():
            for nested in (thing, [thing], (thing,), [[thing], thing], {"a": thing}, (thing, thing, thing), (thing, 0, 1),
                           (("whole", 0, ""), thing, "="), [(thing, thing, "=")], [(("whole", thing, ""), ("whole", 0, ""), "=")]):
                self.assertIs(is_machine(nested), plainly_machine(nested))
                self.assertIs(is_rule(nested), plainly_rule(nested))
                for some in (("closed", 1, 1), ("faded", 0, 1), ("doubled", 0, 2)):
                    self.assertIn(is_reading(EVEN, some, nested), (True, False) if isinstance(nested, str) else (False,))
                    self.assertIs(type(shows_book(EVEN, some, nested)), bool)


if __name__ == "__main__":
    unittest.main()
