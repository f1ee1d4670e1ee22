"""Point 2 and the interface's stage 2: machines and their words."""

import unittest
from itertools import product

from tearwords.errors import NoCount, NoMachine, NoWord
from tearwords.machines import first_words, has_word, is_machine
from tests.samples import (
    ALL_ENDS, EVEN, ONE_STATE, RING, THREE_LETTERS, TWO_WORDS, exchanged, odd_values, plainly_machine, reads,
    strings_to,
)


def small_machines(letters, many):
    """All machines with these letters and so many states."""
    goals = [None] + list(range(many))
    rows = list(product(goals, repeat=len(letters)))
    for states in product(rows, repeat=many):
        for told in product((False, True), repeat=many):
            yield letters, states, tuple([at for at in range(many) if told[at]])


class IsMachineTest(unittest.TestCase):
    def test_machines(self):
        for machine in (EVEN, ONE_STATE, TWO_WORDS, RING, THREE_LETTERS, ALL_ENDS):
            self.assertIs(is_machine(machine), True, machine)
        self.assertIs(is_machine(("a", ((None,),), ())), True)
        self.assertIs(is_machine(("z", ((0,),), ())), True)
        self.assertIs(is_machine(("az", ((5, 0),) * 6, (0, 2, 5))), True)

    def test_letters(self):
        for letters in ("", "abcd", "aa", "ba", "acb", "aab", "abb", "A", "aB", "`", "{", "a{", "1", " ", "?", "a ",
                        "\n", "\u00e4", "a" * 1000):
            machine = (letters, ((None,) * len(letters),), ())
            self.assertIs(is_machine(machine), False, letters)
        for letters in (("a", "b"), ["a", "b"], ("ab",), None, True, 2, b"ab", {"a": 0, "b": 1}):
            self.assertIs(is_machine((letters, ((0, 0),), ())), False, letters)

    def test_number_of_states(self):
        for many in (1, 2, 3, 4, 5, 6):
            self.assertIs(is_machine(("a", ((many - 1,),) * many, (many - 1,))), True)
            self.assertIs(is_machine(("a", ((many,),) * many, (many - 1,))), False)
            self.assertIs(is_machine(("a", ((many - 1,),) * many, (many,))), False)
        for many in (0, 7, 8, 1000):
            self.assertIs(is_machine(("a", ((0,),) * many, ())), False)

    def test_states(self):
        for states in ([(0, 0)], ([0, 0],), ((0,),), ((0, 0, 0),), ((),), ((0, 1),), ((0, -1),), ((0, True),),
                       ((False, 0),), ((0, "0"),), ((0, (0,)),), ((0, "a"),), ("ab",), (0, 0), (None,), None, 0,
                       True, "ab", {}, {0: (0, 0)}, ({0: 0, 1: 0},), ((0, 0), None), ((0, 0), [0, 0]), ((0, 10 ** 12),)):
            self.assertIs(is_machine(("ab", states, (0,))), False, states)

    def test_ends(self):
        for ends in ((), (0,), (1,), (2,), (0, 1), (0, 2), (0, 1, 2)):
            self.assertIs(is_machine(("a", ((0,),) * 3, ends)), True, ends)
        for ends in ([], [0], (0, 0), (1, 0), (0, 2, 1), (0, 1, 1), (-1,), (-1, 0), (3,), (0, 3), (True,), (False,),
                     (0, True), (None,), ("0",), (0, None), (None, 0), (0, "1"), ((0,),), (0, (1,)), ([0],), None,
                     0, True, "", "0", {}, {0: 0}, tuple(range(100000))):
            self.assertIs(is_machine(("a", ((0,),) * 3, ends)), False, ends)

    def test_form_of_the_whole(self):
        letters, states, ends = EVEN
        for thing in (list(EVEN), (letters, states), (letters, states, ends, ends), (states, letters, ends),
                      (ends, states, letters), (letters, ends, states), [EVEN], (EVEN,), {0: EVEN}, states, ends):
            self.assertIs(is_machine(thing), False, thing)

    def test_bool_within(self):
        self.assertIs(is_machine(("a", ((0,), (0,)), (1,))), True)
        self.assertIs(is_machine(("a", ((0,), (0,)), (True,))), False)
        self.assertIs(is_machine(("a", ((1,), (0,)), (1,))), True)
        self.assertIs(is_machine(("a", ((True,), (0,)), (1,))), False)
        self.assertIs(is_machine(("a", ((1,), (False,)), (1,))), False)

    def test_values_of_every_kind(self):
        for part in odd_values():
            self.assertIs(is_machine(part), False)
            for thing in exchanged(TWO_WORDS, part):
                self.assertIs(is_machine(thing), plainly_machine(thing))


class HasWordTest(unittest.TestCase):
    def test_worked_example(self):
        machine = ('ab', ((0, 1), (1, 0)), (0,))
        self.assertEqual([has_word(machine, 'ab'), first_words(machine, 6)],
                         [False, ['', 'a', 'aa', 'bb', 'aaa', 'abb']])

    def test_answers_are_true_and_false(self):
        self.assertIs(has_word(EVEN, "bab"), True)
        self.assertIs(has_word(EVEN, "ba"), False)

    def test_empty_word(self):
        self.assertIs(has_word(ONE_STATE, ""), True)
        self.assertIs(has_word(("a", ((0,),), ()), ""), False)
        self.assertIs(has_word(("a", ((1,), (0,)), (1,)), ""), False)
        self.assertIs(has_word(("a", ((None,),), (0,)), ""), True)

    def test_none_met(self):
        machine = ("ab", ((0, None), (0, 0)), (0,))
        self.assertIs(has_word(machine, "aa"), True)
        for word in ("b", "ab", "ba", "aba", "bb"):
            self.assertIs(has_word(machine, word), False, word)

    def test_ends_never_reached_and_empty(self):
        never = ("ab", ((0, 0), (1, 1)), (1,))
        none = ("ab", ((0, 1), (1, 0)), ())
        for word in strings_to("ab", 4):
            self.assertIs(has_word(never, word), False)
            self.assertIs(has_word(none, word), False)
            self.assertIs(has_word(("ab", ((0, 0),), (0,)), word), True)

    def test_long_words(self):
        self.assertIs(has_word(ONE_STATE, "a" * 200), True)
        self.assertIs(has_word(EVEN, "ab" * 100), True)
        self.assertIs(has_word(EVEN, "a" * 199 + "b"), False)
        for word in ("a" * 201, "a" * 1000):
            with self.assertRaises(NoWord):
                has_word(ONE_STATE, word)

    def test_against_a_walk_through_the_table(self):
        for machine in (EVEN, ONE_STATE, TWO_WORDS, RING, THREE_LETTERS, ALL_ENDS):
            for word in strings_to(machine[0], 6):
                self.assertIs(has_word(machine, word), reads(machine, word), (machine, word))

    def test_no_word(self):
        for word in ("c", "ac", "abc", "A", " ", "a ", "?", "*", "a?", "\n", None, True, False, 0, 1, (), [], {}, ("a",),
                     ["a", "b"], {"a": 0}, b"a"):
            with self.assertRaises(NoWord):
                has_word(EVEN, word)

    def test_no_machine(self):
        for machine in odd_values() + [list(EVEN), ("ab", [(0, 1), (1, 0)], (0,)), ("ab", ((0, 1), (1, 0)), (False,))]:
            with self.assertRaises(NoMachine):
                has_word(machine, "")

    def test_order_of_errors(self):
        for machine in (None, ("a", (), ()), list(EVEN)):
            with self.assertRaises(NoMachine):
                has_word(machine, "c")
            with self.assertRaises(NoMachine):
                has_word(machine, "a" * 201)
            with self.assertRaises(NoMachine):
                has_word(machine, None)


class FirstWordsTest(unittest.TestCase):
    def test_order(self):
        self.assertEqual(first_words(THREE_LETTERS, 13),
                         ["", "c", "m", "z", "cc", "cm", "cz", "mc", "mm", "mz", "zc", "zm", "zz"])
        self.assertEqual(first_words(TWO_WORDS, 40), ["ab", "ba"])
        # The order is not that of the numbers of states, and longer words with lesser letters stand behind.
        self.assertEqual(first_words(("ab", ((2, 1), (None, None), (1, None)), (1,)), 40), ["b", "aa"])

    def test_number(self):
        self.assertEqual(first_words(EVEN, 0), [])
        self.assertEqual(first_words(EVEN, 1), [""])
        self.assertEqual(first_words(TWO_WORDS, 0), [])
        self.assertEqual(first_words(TWO_WORDS, 1), ["ab"])
        self.assertEqual(len(first_words(EVEN, 39)), 39)
        self.assertEqual(len(first_words(EVEN, 40)), 40)
        for many in range(41):
            self.assertEqual(first_words(EVEN, many), first_words(EVEN, 40)[:many])
            self.assertEqual(first_words(RING, many), first_words(RING, 40)[:many])

    def test_fewer_words_than_asked_for(self):
        self.assertEqual(first_words(("a", ((None,),), (0,)), 40), [""])
        self.assertEqual(first_words(("a", ((1,), (2,), (None,)), (0, 2)), 40), ["", "aa"])
        self.assertEqual(first_words(("ab", ((1, 1), (None, None)), (0, 1)), 40), ["", "a", "b"])

    def test_no_words(self):
        for machine in (("a", ((0,),), ()), ("ab", ((0, 0), (1, 1)), (1,)), ("a", ((None,), (0,)), (1,)),
                        ("abc", ((1, 2, 0), (0, 1, 2), (2, 0, 1)), ())):
            self.assertEqual(first_words(machine, 40), [])

    def test_states_that_lead_to_no_end(self):
        # b leads to a state from which one can go on for ever, but never to an end.
        self.assertEqual(first_words(("ab", ((1, 2), (None, None), (2, 2)), (1,)), 40), ["a"])

    def test_words_of_more_than_200_letters(self):
        machine = ("a", ((1,), (2,), (3,), (4,), (5,), (0,)), (0,))
        self.assertEqual(first_words(machine, 40), ["a" * (6 * n) for n in range(40)])

    def test_many_beginnings_before_the_first_words(self):
        self.assertEqual(first_words(RING, 40), [""] + ["".join(signs) for signs in product("abc", repeat=6)][:39])

    def test_against_all_strings_one_letter(self):
        for machine in small_machines("a", 2):
            words = [word for word in strings_to("a", 80) if reads(machine, word)]
            self.assertEqual(first_words(machine, 40), words[:40], machine)

    def test_against_all_strings_two_letters(self):
        strings = strings_to("ab", 6)
        for machine in small_machines("ab", 2):
            words = [word for word in strings if reads(machine, word)]
            told = first_words(machine, 40)
            self.assertEqual([word for word in told if len(word) <= 6], words[:40], machine)
            self.assertTrue(all([reads(machine, word) for word in told]), machine)
            self.assertEqual(told, sorted(set(told), key=lambda word: (len(word), word)), machine)
            # With two states, a machine that has words of two or three letters has infinitely many.
            if any([len(word) in (2, 3) for word in words]):
                self.assertEqual(len(told), 40, machine)

    def test_against_all_strings_three_letters(self):
        for machine in (RING, THREE_LETTERS, ALL_ENDS):
            words = [word for word in strings_to(machine[0], 6) if reads(machine, word)]
            self.assertEqual(first_words(machine, 40), words[:40], machine)

    def test_no_count(self):
        for many in (-1, 41, 10 ** 12, -10 ** 12, True, False, None, "1", "", (), (1,), [], [1], {}):
            with self.assertRaises(NoCount):
                first_words(EVEN, many)

    def test_order_of_errors(self):
        for machine in odd_values() + [list(EVEN)]:
            for many in (0, 41, True, None):
                with self.assertRaises(NoMachine):
                    first_words(machine, many)


if __name__ == "__main__":
    unittest.main()
