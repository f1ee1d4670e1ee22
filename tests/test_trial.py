"""Point 13 and the interface's stage 11: trials at desks."""

import copy
import inspect
import random
import unittest

from tearwords.desks import Desk, trial
from tearwords.errors import (
    NoCount, NoDeed, NoDesk, NoReading, NoThings, NotThere, NoUndo, NoWord, Rivals, TooGreat, Twice,
)
from tests.samples import EVEN, ONE_STATE, RULES, deep, odd_values
from tests.slow_desk import SlowDesk, outcome, slow_trial
from tests.test_desks import ALL_WORDS, CLOSED, MACHINES, answers, some_deed, view

NO_DEEDS = [
    None, True, False, 0, 1, "", "undo ", "Undo", "admit", "ask", (), ("undo",), ("undo", None), ("undo", "undo"), ("admit",),
    ("admit", "aa", "aa"), ("ask", "a", "a"), ("bear",), ("words", None), ("rivals", ()), ("rule", 1), ("Admit", "aa"),
    (None, "aa"), (True, 1), (0, 1), (["admit"], "aa"), (("admit",), "aa"), ({"ask": 1}, "a"), ("aa", "admit"), ("", ""),
    {}, {"admit": "aa"}, {"undo": True}, (("admit", "aa"),), (("admit", "aa"), ("admit", "bb")), ("undo", 1, 2), b"undo",
    ("__len__", None), ("_do", None), ("__exit__", None),
]


class TrialTest(unittest.TestCase):
    def test_worked_example(self):
        machine = ('ab', ((0, 1), (1, 0)), (0,))
        told = trial(Desk(machine, ('open', 0, 1)), [('admit', 'aa'), [('strike', 'aa'), 'undo'], ('ask', 'a*')])
        self.assertEqual(told, [1, [0, 1], ('certain', 'aa')])

    def test_no_things(self):
        desk = Desk(EVEN, CLOSED)
        desk.admit("aa")
        things = []
        for told in (trial(desk, things), trial(desk, things)):
            self.assertEqual(told, [])
            self.assertIsNot(told, things)
        self.assertEqual(trial(desk, [[], [[], [[]]]]), [[], [[], [[]]]])
        self.assertEqual(desk.words(), ["aa"])

    def test_form_of_the_answer(self):
        desk = Desk(EVEN, CLOSED)
        told = trial(desk, [("admit", "abb"), ("bear", 1), [("admit", "bab"), ("ask", "bb"), [("ask", "a"), "undo"], ("ask", "bb")],
                            "undo", ("ask", "bb"), ("strike", "abb"), ("ask", "bb")])
        self.assertEqual(told, [1, 1, [2, ("doubtful", ["abb", "bab"]), [("foreign",), 1], ("doubtful", ["abb", "bab"])],
                                1, ("certain", "abb"), 0, ("foreign",)])
        self.assertEqual([type(told), type(told[0]), type(told[2]), type(told[4])], [list, int, list, tuple])
        self.assertEqual(view(desk), [[], [], CLOSED, 0])

    def test_stretches(self):
        desk = Desk(EVEN, CLOSED)
        desk.admit("aa")
        told = trial(desk, [["undo", ("admit", "bb"), ("admit", "aa")], ("ask", "a"), "undo", [], ("ask", "a")])
        self.assertEqual(told, [[0, 1, 2], ("certain", "aa"), 0, [], ("foreign",)])
        self.assertEqual(desk.words(), ["aa"])
        with self.assertRaises(NoUndo):
            trial(desk, ["undo", [("admit", "bb"), "undo", "undo"]])
        self.assertEqual(desk.words(), ["aa"])

    def test_depth(self):
        desk = Desk(EVEN, CLOSED)
        for depth in (1, 2, 3, 4, 5):
            things, told = [("admit", "aa")], [1]
            for _ in range(depth - 1):
                things, told = [things, ("ask", "a"), things], [told, ("foreign",), told]
            self.assertEqual(trial(desk, things), told)
            empty = []
            for _ in range(depth - 1):
                empty = [empty]
            self.assertEqual(trial(desk, empty), empty)
        for depth in (6, 7, 12, 50):
            things = [("admit", "aa")]
            for _ in range(depth - 1):
                things = [things]
            for given in (things, [("admit", "b"), things[0]], [[], things[0], None], [None, 7, things[0]]):
                with self.assertRaises(NoThings):
                    trial(desk, given)
            with self.assertRaises(NoThings):
                trial(desk, deep(depth, list))
        self.assertEqual(view(desk), [[], [], CLOSED, 0])

    def test_lists_within_what_is_no_list(self):
        # These are taken for deeds, whatever stands in them.
        inner = deep(9, list)
        desk = Desk(EVEN, CLOSED)
        for deed, error in ((("admit", inner), NoWord), (("strike", inner), NoWord), (("bear", inner), NoCount),
                            (("ask", inner), NoReading), ((inner, inner), NoDeed), ({"a": inner}, NoDeed), ((inner,), NoDeed)):
            for things in ([deed], [[[[[deed]]]]], [("admit", "aa"), [deed]]):
                with self.assertRaises(error):
                    trial(desk, things)

    def test_form_is_looked_at_before_the_first_deed(self):
        desk = Desk(EVEN, CLOSED)
        too_deep = [[[[[[]]]]]]
        for first in (("admit", "b"), ("ask", "?"), "undo", None, ("bear", 7)):
            with self.assertRaises(NoThings):
                trial(desk, [first] + too_deep)

    def test_no_lists(self):
        desk = Desk(EVEN, CLOSED)
        for things in odd_values() + ["undo", ("admit", "aa"), (("admit", "aa"),), {"a": 1}, desk]:
            if type(things) is not list:
                with self.assertRaises(NoThings):
                    trial(desk, things)

    def test_no_desk(self):
        for desk in odd_values() + [EVEN, CLOSED, Desk, "desk", [Desk(EVEN, CLOSED)], (Desk(EVEN, CLOSED),)]:
            for things in ([], None, [[[[[[]]]]]], [("admit", "aa")]):
                with self.assertRaises(NoDesk):
                    trial(desk, things)

    def test_no_deeds(self):
        desk = Desk(EVEN, CLOSED)
        desk.admit("aa")
        for deed in NO_DEEDS:
            for things in ([deed], [("ask", "a"), deed], [[("strike", "aa"), "undo"], [[deed]]], [("bear", 3), [deed, 7]]):
                with self.assertRaises(NoDeed, msg=deed):
                    trial(desk, things)
            # It is not its turn when an error comes before it.
            for error, before in ((NoWord, ("admit", "b")), (NotThere, ("strike", "bb")), (NoCount, ("bear", 0))):
                with self.assertRaises(error):
                    trial(desk, [before, deed])
                with self.assertRaises(error):
                    trial(desk, [[before], deed])
        self.assertEqual(view(desk), [["aa"], [], CLOSED, 1])

    def test_what_is_handed_to_the_methods(self):
        desk = Desk(EVEN, CLOSED)
        desk.admit("aa")
        for part in odd_values() + [("aa",), ["aa"], "b", "c", -1, 4, True]:
            for name, error in (("admit", NoWord), ("strike", NoWord), ("bear", NoCount), ("ask", NoReading)):
                told = outcome(getattr(Desk(EVEN, CLOSED), name), part)
                if told == ("raised", error):
                    with self.assertRaises(error):
                        trial(desk, [[(name, part)]])

    def test_errors_go_through(self):
        desk = Desk(EVEN, CLOSED, True)
        desk.admit("abb")
        for error, deed in ((NoWord, ("admit", "b")), (Twice, ("admit", "abb")), (Rivals, ("admit", "bab")),
                            (NotThere, ("strike", "bb")), (NoWord, ("strike", None)), (NoCount, ("bear", 4)),
                            (NoReading, ("ask", "?")), (NoDeed, "redo")):
            for things in ([deed], [("admit", "aaaa"), deed, ("admit", "bbbb")], [("bear", 2), [[[[deed]]]]],
                           [[("strike", "abb")], [deed]], [("admit", ""), "undo", [], deed]):
                with self.assertRaises(error):
                    trial(desk, things)
                self.assertEqual(view(desk), [["abb"], [], CLOSED, 1])
        desk.undo()
        with self.assertRaises(NoUndo):
            desk.undo()

    def test_too_great(self):
        desk = Desk(EVEN, CLOSED)
        self.assertEqual(trial(desk, [("bear", 1)] * 100), [0] * 100)
        for things in ([("bear", 1)] * 101, [("bear", 1)] * 99 + [[("bear", 1), ("bear", 1)]]):
            with self.assertRaises(TooGreat):
                trial(desk, things)
        # Each list in turn takes its deeds back.
        self.assertEqual(trial(desk, [[("bear", 1)] * 60] * 5), [[0] * 60] * 5)
        self.assertEqual(trial(desk, [("bear", 1), "undo"] * 200), [0] * 400)
        full = Desk(ONE_STATE, ("faded", 0, 0))
        for many in range(40):
            full.admit("a" * many)
        with self.assertRaises(TooGreat):
            trial(full, [("strike", ""), ("admit", ""), ("admit", "a" * 40)])
        self.assertEqual(trial(full, [("strike", ""), ("admit", "a" * 40)]), [39, 40])

    def test_names(self):
        self.assertEqual(list(inspect.signature(trial).parameters), ["desk", "things"])
        self.assertEqual(trial(things=[("admit", "aa")], desk=Desk(EVEN, CLOSED)), [1])
        self.assertEqual(trial.__module__, "tearwords.desks")

    def test_lists_of_answers_are_new(self):
        desk = Desk(EVEN, CLOSED)
        desk.admit("abb")
        desk.admit("bab")
        inner = [("ask", "bb")]
        things = [("ask", "bb"), ("ask", "bb"), inner, inner]
        before = copy.deepcopy(things)
        told = trial(desk, things)
        doubtful = ("doubtful", ["abb", "bab"])
        self.assertEqual(told, [doubtful, doubtful, [doubtful], [doubtful]])
        lists = [told, told[0][1], told[1][1], told[2], told[2][0][1], told[3], told[3][0][1], things, inner]
        self.assertEqual(len({id(some) for some in lists}), len(lists))
        for some in lists[1:7]:
            some.clear()
        self.assertEqual(trial(desk, things), [doubtful, doubtful, [doubtful], [doubtful]])
        self.assertEqual(things, before)
        self.assertEqual([desk.words(), desk.ask("bb")], [["abb", "bab"], doubtful])

    def some_things(self, chance, machine, desk, depth):
        """Things of the right form, by chance, perhaps with deeds that will be refused."""
        things = []
        for _ in range(chance.randrange(5)):
            if depth > 1 and chance.random() < 0.35:
                things.append(self.some_things(chance, machine, desk, depth - 1))
            elif chance.random() < 0.03:
                things.append(chance.choice(NO_DEEDS))
            else:
                deed = some_deed(chance, machine, desk)
                things.append("undo" if deed == ("undo",) else deed)
        return things

    def test_against_a_slow_desk(self):
        chance = random.Random(21)
        seen = set()
        for machine in MACHINES:
            for rule in RULES[::2]:
                for guarded in (False, True):
                    desk, slow = Desk(machine, rule, guarded), SlowDesk(machine, rule, guarded)
                    for _ in range(12):
                        things = self.some_things(chance, machine, desk, 5)
                        before = copy.deepcopy(things)
                        told = outcome(trial, desk, things)
                        self.assertEqual(told, outcome(slow_trial, slow, things), (machine, rule, guarded, things))
                        self.assertEqual(things, before)
                        self.assertEqual(view(desk), view(slow))
                        seen.add(told[1] if told[0] == "raised" else len(told[1]))
                        # And it is led on.
                        for _ in range(3):
                            deed = some_deed(chance, machine, desk)
                            self.assertEqual(outcome(getattr(desk, deed[0]), *deed[1:]),
                                             outcome(getattr(slow, deed[0]), *deed[1:]))
        self.assertTrue({NoDeed, NoUndo, NoWord, NoReading, Twice, NotThere, Rivals, NoCount, 0, 1, 2, 3, 4} <= seen, seen)

    def test_the_desk_is_the_same_behind_each_trial(self):
        for guarded in (False, True):
            desk, untried = Desk(ALL_WORDS, CLOSED, guarded), Desk(ALL_WORDS, CLOSED, guarded)
            for name, given in (("admit", "aa"), ("admit", "bb"), ("bear", 2), ("strike", "aa"), ("admit", "aba")):
                outcome(trial, desk, [("admit", "b"), ["undo", "undo", ("admit", "a")], ("bear", 3), ("ask", "a"), "undo"])
                outcome(trial, desk, ["undo", "undo", "undo", "undo"])
                self.assertEqual(outcome(getattr(desk, name), given), outcome(getattr(untried, name), given))
                self.assertEqual(view(desk), view(untried))
                self.assertEqual(answers(desk), answers(untried))
            while outcome(untried.undo)[0] == "returned":
                desk.undo()
                self.assertEqual(view(desk), view(untried))
            with self.assertRaises(NoUndo):
                desk.undo()

    def test_trials_within_stretches(self):
        desk = Desk(EVEN, CLOSED)
        with desk:
            desk.admit("aa")
            self.assertEqual(trial(desk, ["undo", [("admit", "bb")]]), [0, [1]])
            self.assertEqual(desk.words(), ["aa"])
        self.assertEqual(desk.words(), [])


if __name__ == "__main__":
    unittest.main()
