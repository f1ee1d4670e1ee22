"""Point 13 and the interface's stage 11: desks, led by many deeds against a slow desk."""

import inspect
import random
import unittest

from tearwords.desks import Desk
from tearwords.errors import (
    NoCount, NoKind, NoMachine, NoReading, NoRule, NotThere, NoUndo, NoWord, Rivals, TooGreat, Twice,
)
from tests.samples import ALL_ENDS, EVEN, ONE_STATE, RING, RULES, TWO_WORDS, odd_values, strings_to
from tests.slow import BOUND_OF, left_set, words_to
from tests.slow_desk import SlowDesk, outcome, plainly_reading

CLOSED = ("closed", 1, 1)
ALL_WORDS = ("ab", ((0, 0),), (0,))
LONG = 200 * "a"
NO_WORDS = ["b", "ab", "c", "aac", "A", "a ", "?", "*", "a" * 201, None, True, False, 0, 1, (), ("aa",), ["aa"], [], {}, b"aa"]
NO_COUNTS = [-1, 4, 10 ** 12, True, False, None, "", "1", (), (1,), [1], [], {}]
READINGS = {letters: strings_to(letters + "?*", 3 if len(letters) < 3 else 2) for letters in ("a", "ab", "abc")}
MACHINES = [EVEN, ALL_WORDS, TWO_WORDS, ONE_STATE, RING, ALL_ENDS]


def view(desk):
    """Everything that a desk tells of itself, but for what it answers to readings."""
    return [desk.words(), desk.rivals(), desk.rule, len(desk)]


def answers(desk):
    """What the desk answers to all short texts and to all readings of its words."""
    texts = READINGS[desk._machine[0]] + sorted({reading for word in desk.words() for reading in left_set(desk.rule, word)})
    return [(text, outcome(desk.ask, text)) for text in texts]


class LedDesk:
    """A desk and a slow one that are led by the same deeds and compared behind each."""

    def __init__(self, test, machine, rule, guarded):
        self.test = test
        self.desk = Desk(machine, rule, guarded)
        self.slow = SlowDesk(machine, rule, guarded)
        self.machine = machine
        self.where = (machine, rule, guarded)

    def do(self, name, *given):
        """Do one deed at both, which may be refused, and return what came of it."""
        told = outcome(getattr(self.desk, name), *given)
        self.test.assertEqual(told, outcome(getattr(self.slow, name), *given), (self.where, name, given))
        if told[0] == "returned" and name != "ask":
            self.test.assertIsNone(told[1])
        self.compare()
        return told

    def compare(self):
        self.test.assertEqual(view(self.desk), view(self.slow), self.where)

    def compare_answers(self):
        for text in READINGS[self.machine[0]]:
            self.test.assertEqual(outcome(self.desk.ask, text), outcome(self.slow.ask, text), (self.where, text))
        for reading in {reading for word in self.slow.words() for reading in left_set(self.slow.rule, word)}:
            words = [word for word in self.slow.words() if reading in left_set(self.slow.rule, word)]
            right = ("certain", words[0]) if len(words) == 1 else ("doubtful", words)
            self.test.assertEqual(self.desk.ask(reading), right, (self.where, reading))

    def compare_with_new_one(self):
        """A new desk with the same words and rule answers as this one."""
        new = Desk(self.machine, self.desk.rule, self.where[2])
        for word in self.desk.words()[::-1]:
            new.admit(word)
        self.test.assertEqual(view(new), view(self.desk))
        self.test.assertEqual(answers(new), answers(self.desk))


def some_deed(chance, machine, desk):
    """One deed by chance: mostly one that can be done."""
    words = words_to(machine, 3)[:9] + words_to(machine, 5)[-3:] or [""]
    kind = chance.choice(["admit"] * 5 + ["strike"] * 2 + ["bear"] * 2 + ["undo"] * 3 + ["ask"] + ["wrong"])
    if kind == "admit":
        return "admit", chance.choice(words)
    if kind == "strike":
        return "strike", chance.choice(desk.words() or words)
    if kind == "bear":
        return "bear", chance.choice([0, 1, 1, 2, 2, 3, 4])
    if kind == "ask":
        return "ask", chance.choice(READINGS[machine[0]])
    if kind == "wrong":
        return chance.choice(["admit", "strike", "bear", "ask"]), chance.choice([None, True, (), [], "x", "d", -1, 10 ** 9])
    return ("undo",)


class ManyDeedsTest(unittest.TestCase):
    def lead(self, led, chance, many):
        seen = set()
        for _ in range(many):
            deed = some_deed(chance, led.machine, led.desk)
            told = led.do(*deed)
            seen.add((deed[0], told[1] if told[0] == "raised" else None))
        return seen

    def test_many_deeds(self):
        chance = random.Random(11)
        seen = set()
        for machine in MACHINES:
            for rule in RULES:
                for guarded in (False, True):
                    led = LedDesk(self, machine, rule, guarded)
                    for _ in range(2):
                        seen |= self.lead(led, chance, 20)
                        led.compare_answers()
                    led.compare_with_new_one()
        for mark in (("admit", None), ("admit", NoWord), ("admit", Twice), ("admit", Rivals), ("strike", None),
                     ("strike", NotThere), ("strike", NoWord), ("bear", None), ("bear", NoCount), ("bear", Rivals),
                     ("undo", None), ("undo", NoUndo), ("ask", None), ("ask", NoReading)):
            self.assertIn(mark, seen)

    def test_stretches(self):
        chance = random.Random(12)
        for machine in MACHINES:
            for rule in RULES[::2]:
                for guarded in (False, True):
                    led = LedDesk(self, machine, rule, guarded)
                    self.lead(led, chance, 6)
                    self.stretch(led, chance, 3)
                    led.compare_answers()
                    led.compare_with_new_one()
                    self.lead(led, chance, 6)

    def stretch(self, led, chance, depth):
        before = view(led.desk)
        with led.desk as same, led.slow:
            self.assertIs(same, led.desk)
            for _ in range(2):
                self.lead(led, chance, 3)
                # Often behind the beginning of the stretch.
                for _ in range(chance.randrange(4)):
                    led.do("undo")
                if depth > 0:
                    self.stretch(led, chance, depth - 1)
        self.assertEqual(view(led.desk), before)
        led.compare()

    def test_undo_to_the_beginning(self):
        chance = random.Random(13)
        for machine in MACHINES:
            for guarded in (False, True):
                led = LedDesk(self, machine, ("closed", 0, 1), guarded)
                self.lead(led, chance, 30)
                while led.do("undo")[0] == "returned":
                    led.compare_answers()
                self.assertEqual(view(led.desk), [[], [], ("closed", 0, 1), 0])
                self.lead(led, chance, 5)


class DeskTest(unittest.TestCase):
    def test_worked_examples(self):
        machine = ('ab', ((0, 1), (1, 0)), (0,))
        desk = Desk(machine, ('closed', 1, 1))
        told = [desk.admit('abb'), desk.ask('bb'), desk.admit('bab'), desk.ask('bb'), desk.rivals(), desk.ask('aa')]
        self.assertEqual(told, [None, ('certain', 'abb'), None, ('doubtful', ['abb', 'bab']), [('abb', 'bab')], ('foreign',)])
        desk = Desk(machine, ('closed', 1, 1), guarded=True)
        desk.admit('abb')
        with self.assertRaises(Rivals):
            desk.admit('bab')

    def test_new_desk(self):
        for machine in MACHINES:
            for rule in RULES:
                for desk in (Desk(machine, rule), Desk(machine, rule, True), Desk(machine, rule, False)):
                    self.assertEqual(view(desk), [[], [], rule, 0])
                    for text in READINGS[machine[0]]:
                        right = ("returned", ("foreign",)) if plainly_reading(machine[0], rule, text) else ("raised", NoReading)
                        self.assertEqual(outcome(desk.ask, text), right)
                    with self.assertRaises(NoUndo):
                        desk.undo()

    def test_kinds_of_answers(self):
        desk = Desk(EVEN, CLOSED)
        self.assertEqual([desk.admit("abb"), desk.admit("bab"), desk.admit("bba"), desk.strike("bba"), desk.bear(2), desk.undo()],
                         [None] * 6)
        self.assertIs(type(desk.words()), list)
        self.assertIs(type(desk.rivals()), list)
        self.assertIs(type(desk.rivals()[0]), tuple)
        self.assertIs(type(desk.rule), tuple)
        self.assertIs(type(len(desk)), int)
        for reading in ("bb", "aa", "ab"):
            self.assertIs(type(desk.ask(reading)), tuple)
        self.assertIs(type(desk.ask("bb")[1]), list)

    def test_answers_in_order(self):
        desk = Desk(ALL_WORDS, ("closed", 0, 1))
        for word in ("ba", "b", "", "ab", "a", "bb", "aaa", "aa"):
            desk.admit(word)
        self.assertEqual(desk.words(), ["", "a", "b", "aa", "ab", "ba", "bb", "aaa"])
        self.assertEqual(desk.ask("a"), ("doubtful", ["a", "aa", "ab", "ba"]))
        self.assertEqual(desk.ask(""), ("doubtful", ["", "a", "b"]))
        self.assertEqual(desk.rivals(), SlowDeskOf(desk).rivals())
        self.assertEqual(desk.rivals()[:4], [("", "a"), ("", "b"), ("a", "b"), ("a", "aa")])
        self.assertEqual(desk.rivals(), sorted(desk.rivals(), key=lambda pair: [(len(word), word) for word in pair]))

    def test_undo_of_each_kind_of_deed(self):
        desk = Desk(EVEN, ("closed", 0, 1))
        desk.admit("aa")
        desk.admit("bb")
        desk.bear(3)
        desk.strike("aa")
        self.assertEqual([desk.words(), desk.rule], [["bb"], ("closed", 0, 3)])
        for error, name, given in ((Twice, "admit", "bb"), (NotThere, "strike", "aa"), (NoWord, "admit", "b"),
                                   (NoCount, "bear", 4), (NoReading, "ask", "*"), (NoWord, "strike", None)):
            with self.assertRaises(error):
                getattr(desk, name)(given)
        desk.undo()
        self.assertEqual([desk.words(), desk.rule], [["aa", "bb"], ("closed", 0, 3)])
        desk.undo()
        self.assertEqual([desk.words(), desk.rule], [["aa", "bb"], ("closed", 0, 1)])
        desk.undo()
        self.assertEqual([desk.words(), desk.rule], [["aa"], ("closed", 0, 1)])
        desk.undo()
        self.assertEqual([desk.words(), desk.rule], [[], ("closed", 0, 1)])
        for _ in range(2):
            with self.assertRaises(NoUndo):
                desk.undo()
        desk.admit("bb")
        self.assertEqual(desk.words(), ["bb"])

    def test_undo_is_no_deed(self):
        desk = Desk(EVEN, CLOSED)
        desk.admit("aa")
        desk.strike("aa")
        desk.undo()
        desk.undo()
        with self.assertRaises(NoUndo):
            desk.undo()

    def test_bear_with_the_most_that_stands(self):
        for guarded in (False, True):
            desk = Desk(EVEN, CLOSED, guarded)
            desk.bear(1)
            self.assertEqual(desk.rule, CLOSED)
            desk.undo()
            with self.assertRaises(NoUndo):
                desk.undo()

    def test_bear_up_and_down(self):
        for kind, bound in BOUND_OF.items():
            for least in range(bound + 1):
                desk = Desk(EVEN, (kind, least, least))
                for most in list(range(least, bound + 1)) + list(range(bound, least - 1, -1)):
                    desk.bear(most)
                    self.assertEqual(desk.rule, (kind, least, most))
                for most in NO_COUNTS + [least - 1, bound + 1]:
                    with self.assertRaises(NoCount):
                        desk.bear(most)
                self.assertEqual(desk.rule, (kind, least, least))

    def test_readings_by_the_rule_that_stands(self):
        desk = Desk(EVEN, ("faded", 1, 1))
        desk.admit("aaa")
        with self.assertRaises(NoReading):
            desk.ask("a??")
        desk.bear(2)
        self.assertEqual(desk.ask("a??"), ("certain", "aaa"))
        desk.undo()
        with self.assertRaises(NoReading):
            desk.ask("a??")
        self.assertEqual(desk.ask("aa?"), ("certain", "aaa"))

    def test_no_words(self):
        for guarded in (False, True):
            desk = Desk(EVEN, CLOSED, guarded)
            desk.admit("aa")
            for word in NO_WORDS:
                for call in (desk.admit, desk.strike):
                    with self.assertRaises(NoWord):
                        call(word)
            with self.assertRaises(NotThere):
                desk.strike("a")
            with self.assertRaises(Twice):
                desk.admit("aa")
            self.assertEqual(view(desk), [["aa"], [], CLOSED, 1])

    def test_no_readings(self):
        desk = Desk(EVEN, CLOSED)
        desk.admit("aa")
        for reading in odd_values() + ["c", "a?", "a*", "A", " ", "a" * 201, ["a"], ("a",), b"a"]:
            if reading not in ("", "a", "ab"):
                with self.assertRaises(NoReading):
                    desk.ask(reading)

    def test_long_words_and_readings(self):
        desk = Desk(ALL_WORDS, ("open", 0, 1))
        desk.admit(LONG)
        desk.admit(LONG[1:] + "b")
        self.assertEqual(desk.ask(LONG[1:] + "*"), ("doubtful", [LONG, LONG[1:] + "b"]))
        self.assertEqual(desk.rivals(), [(LONG, LONG[1:] + "b")])
        # A reading of 201 signs, which both might have.
        with self.assertRaises(NoReading):
            desk.ask(LONG + "*")
        with self.assertRaises(NoWord):
            desk.admit(LONG + "a")

    def test_guarded_by_none_but_true_and_false(self):
        for guarded in [0, 1, None, "", "True", (), (True,), [], [True], {}, 2, -1, "guarded"]:
            with self.assertRaises(NoKind):
                Desk(EVEN, CLOSED, guarded)
            with self.assertRaises(NoKind):
                Desk(EVEN, CLOSED, guarded=guarded)

    def test_order_of_errors(self):
        for machine in odd_values() + [list(EVEN)]:
            with self.assertRaises(NoMachine):
                Desk(machine, None, None)
        for rule in odd_values() + [list(CLOSED), ("closed", True, 1)]:
            with self.assertRaises(NoRule):
                Desk(EVEN, rule, None)

    def test_names(self):
        desk = Desk(machine=EVEN, rule=CLOSED, guarded=True)
        desk.admit(word="aa")
        desk.strike(word="aa")
        desk.bear(most=2)
        self.assertEqual(desk.ask(reading="a"), ("foreign",))
        for name, wanted in (("__init__", ["self", "machine", "rule", "guarded"]), ("admit", ["self", "word"]),
                             ("strike", ["self", "word"]), ("bear", ["self", "most"]), ("undo", ["self"]),
                             ("ask", ["self", "reading"]), ("words", ["self"]), ("rivals", ["self"]), ("__len__", ["self"])):
            self.assertEqual(list(inspect.signature(Desk.__dict__[name]).parameters), wanted)
        self.assertIs(inspect.signature(Desk).parameters["guarded"].default, False)
        self.assertIsInstance(Desk.__dict__["rule"], property)
        self.assertTrue("__enter__" in Desk.__dict__ and "__exit__" in Desk.__dict__)
        self.assertEqual(Desk.__module__, "tearwords.desks")


def SlowDeskOf(desk):
    """A slow desk with the words and the rule of this one."""
    slow = SlowDesk(ALL_WORDS, desk.rule)
    for word in desk.words():
        slow.admit(word)
    return slow


class GuardedTest(unittest.TestCase):
    def test_admit(self):
        desk = Desk(ALL_WORDS, CLOSED, True)
        desk.admit("aab")
        for word in ("aba", "abb", "bab", "aaa"):
            with self.assertRaises(Rivals):
                desk.admit(word)
        desk.admit("bbb")
        self.assertEqual(view(desk), [["aab", "bbb"], [], CLOSED, 2])
        desk.undo()
        desk.admit("bba")
        self.assertEqual(desk.words(), ["aab", "bba"])

    def test_bear(self):
        desk = Desk(ALL_WORDS, ("faded", 1, 1), guarded=True)
        desk.admit("aaa")
        desk.admit("abb")
        for most in (2, 3):
            with self.assertRaises(Rivals):
                desk.bear(most)
        self.assertEqual(desk.rule, ("faded", 1, 1))
        desk.bear(1)
        desk.strike("aaa")
        desk.bear(3)
        with self.assertRaises(Rivals):
            desk.admit("aaa")
        desk.bear(1)
        desk.admit("aaa")
        self.assertEqual([desk.rivals(), len(desk)], [[], 2])

    def test_just_what_would_be_confused(self):
        for rule in RULES:
            desk, plain = Desk(ALL_WORDS, rule, True), Desk(ALL_WORDS, rule)
            for word in words_to(ALL_WORDS, 4):
                if len(plain) == 40:
                    break
                plain.admit(word)
                if plain.rivals():
                    with self.assertRaises(Rivals):
                        desk.admit(word)
                    plain.undo()
                else:
                    desk.admit(word)
                self.assertEqual(view(desk), view(plain))
            for most in range(rule[1], BOUND_OF[rule[0]] + 1):
                plain.bear(most)
                told = outcome(desk.bear, most)
                self.assertEqual(told, ("raised", Rivals) if plain.rivals() else ("returned", None))
                if plain.rivals():
                    plain.undo()
                self.assertEqual(view(desk), view(plain))

    def test_never_doubtful(self):
        for machine in MACHINES:
            for rule in RULES:
                desk = Desk(machine, rule, True)
                for word in words_to(machine, 4)[:12]:
                    outcome(desk.admit, word)
                for _, told in answers(desk):
                    self.assertIn(told[1] if told[0] == "raised" else told[1][0], (NoReading, "certain", "foreign"))


class BoundsTest(unittest.TestCase):
    def full_desk(self):
        desk = Desk(ONE_STATE, ("faded", 0, 0))
        for many in range(40):
            desk.admit("a" * many)
        return desk

    def test_forty_words(self):
        desk = self.full_desk()
        self.assertEqual(len(desk), 40)
        for _ in range(2):
            with self.assertRaises(TooGreat):
                desk.admit("a" * 40)
        self.assertEqual(desk.words(), ["a" * many for many in range(40)])
        # The others come before it.
        with self.assertRaises(Twice):
            desk.admit("a" * 39)
        with self.assertRaises(NoWord):
            desk.admit("b")
        desk.strike("aaa")
        desk.admit("a" * 40)
        self.assertEqual(len(desk), 40)
        with self.assertRaises(TooGreat):
            desk.admit("aaa")
        desk.undo()
        desk.admit("aaa")
        desk.bear(3)
        self.assertEqual(desk.rule, ("faded", 0, 3))

    def test_hundred_deeds(self):
        desk = Desk(EVEN, ("closed", 0, 1))
        for _ in range(49):
            desk.admit("aa")
            desk.strike("aa")
        desk.bear(2)
        desk.admit("bb")
        for name, given in (("bear", 2), ("bear", 0), ("admit", "aa"), ("strike", "bb")):
            with self.assertRaises(TooGreat):
                getattr(desk, name)(given)
        for error, name, given in ((Twice, "admit", "bb"), (NotThere, "strike", "aa"), (NoWord, "admit", "b"),
                                   (NoCount, "bear", 4), (NoCount, "bear", True)):
            with self.assertRaises(error):
                getattr(desk, name)(given)
        self.assertEqual(view(desk), [["bb"], [], ("closed", 0, 2), 1])
        self.assertEqual(desk.ask("b"), ("certain", "bb"))
        desk.undo()
        desk.admit("aa")
        with self.assertRaises(TooGreat):
            desk.strike("aa")
        for _ in range(100):
            desk.undo()
        with self.assertRaises(NoUndo):
            desk.undo()
        self.assertEqual(view(desk), [[], [], ("closed", 0, 1), 0])

    def test_rivals_come_before_too_great(self):
        desk = Desk(ALL_WORDS, CLOSED, True)
        desk.admit("aa")
        for _ in range(99):
            desk.bear(1)
        with self.assertRaises(Rivals):
            desk.admit("ab")
        with self.assertRaises(TooGreat):
            desk.admit("bb")
        desk.undo()
        desk.admit("bb")
        with self.assertRaises(Rivals):
            desk.bear(2)
        with self.assertRaises(TooGreat):
            desk.bear(1)

    def test_rivals_at_a_full_desk(self):
        desk = Desk(ONE_STATE, ("closed", 1, 2), True)
        for many in range(40):
            desk.admit("a" * (2 * many + 2))
            with self.assertRaises(Rivals):
                desk.admit("a" * (2 * many + 3))
        with self.assertRaises(TooGreat):
            desk.admit("a" * 82)
        with self.assertRaises(TooGreat):
            desk.admit("")
        with self.assertRaises(Rivals):
            desk.admit("a" * 81)
        with self.assertRaises(Rivals):
            desk.bear(3)
        desk.bear(1)
        with self.assertRaises(TooGreat):
            desk.admit("a" * 82)

    def test_deeds_of_a_stretch_stand_within_it_alone(self):
        desk = Desk(EVEN, CLOSED)
        for _ in range(60):
            desk.bear(1)
        for _ in range(3):
            with desk:
                for _ in range(40):
                    desk.bear(2)
                with self.assertRaises(TooGreat):
                    desk.bear(1)
                with desk:
                    with self.assertRaises(TooGreat):
                        desk.bear(1)
                    for _ in range(100):
                        desk.undo()
                    with self.assertRaises(NoUndo):
                        desk.undo()
                    for _ in range(100):
                        desk.bear(3)
                with self.assertRaises(TooGreat):
                    desk.bear(1)
                self.assertEqual(desk.rule, ("closed", 1, 2))
            self.assertEqual(desk.rule, CLOSED)
        for _ in range(40):
            desk.bear(1)
        with self.assertRaises(TooGreat):
            desk.bear(1)


class StretchTest(unittest.TestCase):
    def test_nested(self):
        desk = Desk(EVEN, CLOSED)
        desk.admit("aa")
        with desk as same:
            self.assertIs(same, desk)
            desk.admit("bb")
            with desk as again:
                self.assertIs(again, desk)
                desk.strike("aa")
                desk.bear(3)
                self.assertEqual(view(desk), [["bb"], [], ("closed", 1, 3), 1])
            self.assertEqual([desk.words(), desk.rule], [["aa", "bb"], CLOSED])
            desk.undo()
            self.assertEqual(desk.words(), ["aa"])
        self.assertEqual(desk.words(), ["aa"])
        desk.undo()
        self.assertEqual(desk.words(), [])
        with self.assertRaises(NoUndo):
            desk.undo()

    def test_errors_go_through(self):
        desk = Desk(EVEN, CLOSED)
        desk.admit("aa")
        for error in (KeyError, ValueError, Rivals, KeyboardInterrupt):
            thrown = error("told")
            try:
                with desk:
                    desk.admit("bb")
                    with desk:
                        desk.bear(2)
                        raise thrown
            except error as caught:
                self.assertIs(caught, thrown)
            else:
                self.fail("the error is lost")
            self.assertEqual(view(desk), [["aa"], [], CLOSED, 1])
        with self.assertRaises(NoWord):
            with desk:
                desk.admit("bb")
                desk.admit("b")
        self.assertEqual(view(desk), [["aa"], [], CLOSED, 1])

    def test_undos_behind_the_beginning(self):
        desk = Desk(EVEN, CLOSED)
        desk.admit("aa")
        desk.bear(2)
        with desk:
            desk.undo()
            desk.undo()
            with self.assertRaises(NoUndo):
                desk.undo()
            with desk:
                desk.admit("bb")
            self.assertEqual(view(desk), [[], [], CLOSED, 0])
            desk.admit("abb")
        self.assertEqual([desk.words(), desk.rule], [["aa"], ("closed", 1, 2)])
        desk.undo()
        self.assertEqual([desk.words(), desk.rule], [["aa"], CLOSED])
        desk.undo()
        self.assertEqual(desk.words(), [])

    def test_left_early(self):
        desk = Desk(EVEN, CLOSED)

        def tried():
            for word in ("aa", "bb"):
                with desk:
                    desk.admit(word)
                    if word == "bb":
                        return desk.words()
        self.assertEqual(tried(), ["bb"])
        self.assertEqual(desk.words(), [])

    def test_stretches_of_two_desks(self):
        one, other = Desk(EVEN, CLOSED), Desk(EVEN, CLOSED)
        with one, other:
            one.admit("aa")
            self.assertEqual(other.words(), [])
            other.admit("bb")
            with one:
                other.admit("aa")
                one.undo()
            self.assertEqual([one.words(), other.words()], [["aa"], ["aa", "bb"]])
        self.assertEqual([one.words(), other.words()], [[], []])


class OwnListsTest(unittest.TestCase):
    def test_changed_lists_change_no_desk(self):
        desk = Desk(EVEN, CLOSED)
        for word in ("abb", "bab", "aa"):
            desk.admit(word)
        for call, given in ((desk.words, ()), (desk.rivals, ())):
            told = call(*given)
            right = list(told)
            self.assertIsNot(told, call(*given))
            told.append("x")
            told.reverse()
            self.assertEqual(call(*given), right)
        told = desk.ask("bb")[1]
        self.assertIsNot(told, desk.ask("bb")[1])
        told.clear()
        self.assertEqual(desk.ask("bb"), ("doubtful", ["abb", "bab"]))
        self.assertEqual(view(desk), [["aa", "abb", "bab"], [("abb", "bab")], CLOSED, 3])
        desk.strike("aa")
        desk.undo()
        self.assertEqual(desk.words(), ["aa", "abb", "bab"])

    def test_two_desks_share_nothing(self):
        for guarded in (False, True):
            one, other = Desk(EVEN, CLOSED, guarded), Desk(EVEN, CLOSED, guarded)
            one.admit("abb")
            one.bear(2)
            self.assertEqual(view(other), [[], [], CLOSED, 0])
            with self.assertRaises(NoUndo):
                other.undo()
            other.admit("bab")
            self.assertEqual([one.words(), other.words()], [["abb"], ["bab"]])
            one.undo()
            one.undo()
            self.assertEqual([one.words(), other.words()], [[], ["bab"]])


if __name__ == "__main__":
    unittest.main()
