"""Point 14: what holds for all machines and rules, as far as it speaks of readings, pairs, books and hints."""

import unittest

from tearwords.books import book_of
from tearwords.fitting import count_fits, fits, is_reading, restored
from tearwords.hints import confused_with, least_hint
from tearwords.machines import has_word, is_machine
from tearwords.pairs import confused, is_sure
from tearwords.tears import readings_of
from tests.samples import ALL_ENDS, EVEN, ONE_STATE, RING, RULES, TWO_WORDS, strings_to
from tests.slow import plainly_confused, some_machines, words_to

SMALL = (
    [EVEN, TWO_WORDS, ONE_STATE, ("ab", ((0, None),), (0,)), ("ab", ((1, 1), (2, 2), (0, 0)), (0,)),
     ("ab", ((1, None), (None, 2), (None, 0)), (0,)), ("ab", ((1, 2), (1, 3), (3, 2), (None, None)), (3,))]
    + some_machines("a", 3, 4) + some_machines("ab", 2, 5) + some_machines("ab", 3, 8) + some_machines("ab", 4, 10)
)
MANY = SMALL + [RING, ALL_ENDS] + some_machines("abc", 3, 5) + some_machines("abc", 4, 5) + some_machines("ab", 6, 6)
# For what asks for many answers of each machine.
FEWER = MANY[::3]


def letters_of(told):
    """How many letters both words of a told pair have, or None."""
    return None if told is None else len(told[0] + told[1])


def renumbered(machine):
    """The same machine with its states in another order; state 0 stays where it is."""
    letters, states, ends = machine
    many = len(states)
    place = [0] + list(range(many - 1, 0, -1))
    turned = [None] * many
    for at, state in enumerate(states):
        turned[place[at]] = tuple([None if goal is None else place[goal] for goal in state])
    return letters, tuple(turned), tuple(sorted([place[end] for end in ends]))


def with_idle_states(machine):
    """The machine with a state from which no word ends in place of None, and one that nothing leads to."""
    letters, states, ends = machine
    many = len(states)
    filled = tuple([tuple([many if goal is None else goal for goal in state]) for state in states])
    return letters, filled + ((many,) * len(letters), (0,) * len(letters)), ends + (many + 1,)


def with_a_state_twice(machine):
    """The machine with its state 0 twice, of which the second one is reached by letters."""
    letters, states, ends = machine
    many = len(states)
    states = tuple([tuple([many if goal == 0 else goal for goal in state]) for state in states])
    return letters, states + (states[0],), ends + (many,) if 0 in ends else ends


def backwards(machine):
    """The machine of all words backwards, or None if it needs more than six states."""
    letters, states, ends = machine
    found = [frozenset(ends)]
    rows = []
    while len(rows) < len(found):
        row = []
        for at in range(len(letters)):
            before = frozenset([n for n in range(len(states)) if states[n][at] in found[len(rows)]])
            if before and before not in found:
                found.append(before)
            row.append(found.index(before) if before else None)
        rows.append(tuple(row))
    told = (letters, tuple(rows), tuple([at for at, some in enumerate(found) if 0 in some]))
    return told if len(rows) <= 6 else None


class AgreementTest(unittest.TestCase):
    def test_sure_machines_have_each_reading_restored(self):
        seen = 0
        for machine in MANY:
            words = words_to(machine, 6 if len(machine[0]) < 3 else 4)
            for rule in RULES:
                if is_sure(machine, rule):
                    for word in words:
                        for reading in readings_of(rule, word):
                            seen += 1
                            self.assertEqual(restored(machine, rule, reading), word, (machine, rule))
                            self.assertEqual(count_fits(machine, rule, [reading]), 1)
        self.assertGreater(seen, 1000)

    def test_confused_words_are_not_restored(self):
        for machine in MANY:
            for rule in RULES:
                told = confused(machine, rule)
                if told is not None:
                    word, other, reading = told
                    self.assertIsNone(restored(machine, rule, reading))
                    self.assertIs(is_reading(machine, rule, reading), True)
                    self.assertGreater(count_fits(machine, rule, [reading]), 1)
                    words = fits(machine, rule, [reading], 40)
                    self.assertTrue(len(words) == 40 or word in words and other in words)

    def check_same_answers(self, machine, other):
        self.assertTrue(is_machine(other))
        words = words_to(machine, 4)[:12]
        self.assertEqual(words_to(other, 4)[:12], words)
        for rule in RULES:
            where = (machine, other, rule)
            self.assertEqual(letters_of(confused(other, rule)), letters_of(confused(machine, rule)), where)
            self.assertIs(is_sure(other, rule), is_sure(machine, rule))
            self.assertIs(book_of(other, rule) is None, book_of(machine, rule) is None)
            for reading in {reading for word in words for reading in readings_of(rule, word)}:
                self.assertEqual(fits(other, rule, [reading], 40), fits(machine, rule, [reading], 40), where)
                self.assertEqual(count_fits(other, rule, [reading]), count_fits(machine, rule, [reading]))
                self.assertEqual(restored(other, rule, reading), restored(machine, rule, reading))
            for text in strings_to("ab?*", 2):
                self.assertIs(is_reading(other, rule, text), is_reading(machine, rule, text))
            for kind in ("first", "last"):
                self.assertEqual(least_hint(other, rule, kind), least_hint(machine, rule, kind), where)
                self.assertEqual(letters_of(confused_with(other, rule, (kind, 1))),
                                 letters_of(confused_with(machine, rule, (kind, 1))))

    def test_machines_of_the_same_words(self):
        for machine in SMALL[::4]:
            for other in (renumbered(machine), with_idle_states(machine), with_a_state_twice(machine)):
                self.check_same_answers(machine, other)

    def test_fewer_words_of_a_sure_machine(self):
        seen = 0
        for letters, states, ends in MANY:
            for rule in RULES:
                if len(ends) > 1 and is_sure((letters, states, ends), rule):
                    for end in ends:
                        fewer = tuple([other for other in ends if other != end])
                        seen += 1
                        self.assertIs(is_sure((letters, states, fewer), rule), True)
        self.assertGreater(seen, 50)

    def test_words_backwards(self):
        seen = 0
        for machine in FEWER:
            turned = backwards(machine)
            if turned is None:
                continue
            seen += 1
            self.assertEqual(sorted([word[::-1] for word in words_to(turned, 4)]), sorted(words_to(machine, 4)))
            for rule in RULES:
                for kind, other_kind in (("first", "last"), ("last", "first")):
                    for k in range(rule[2] + 1):
                        told = confused_with(machine, rule, (kind, k))
                        back = confused_with(turned, rule, (other_kind, k))
                        self.assertEqual(letters_of(told), letters_of(back), (machine, rule, kind, k))
                        if told is not None:
                            read = tuple([part[::-1] for part in told])
                            self.assertTrue(has_word(turned, read[0]) and has_word(turned, read[1]))
                            self.assertTrue(plainly_confused(rule, (other_kind, k), read))
                            self.assertIs(is_sure(turned, rule), False)
                    self.assertEqual(least_hint(machine, rule, kind), least_hint(turned, rule, other_kind))
        self.assertGreater(seen, 8)

    def test_greater_hints_confuse_no_more(self):
        for machine in FEWER:
            for rule in RULES:
                for kind in ("first", "last"):
                    told = [letters_of(confused_with(machine, rule, (kind, k))) for k in (0, 1, 2, 3)]
                    self.assertEqual(told[0], letters_of(confused(machine, rule)))
                    for less, more in zip(told, told[1:]):
                        self.assertTrue(more is None or less is not None and less <= more, (machine, rule, kind, told))

    def test_hints_of_most_letters_under_open_and_faded(self):
        for machine in FEWER:
            for rule in RULES:
                for kind in ("first", "last"):
                    if rule[0] in ("open", "faded"):
                        self.assertIsNone(confused_with(machine, rule, (kind, rule[2])), (machine, rule))
                        self.assertIsNotNone(least_hint(machine, rule, kind))
                    told = least_hint(machine, rule, kind)
                    for k in range(4):
                        if told is not None and k >= told:
                            self.assertIsNone(confused_with(machine, rule, (kind, k)))


if __name__ == "__main__":
    unittest.main()
