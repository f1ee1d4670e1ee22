"""Point 14: what holds for all machines and rules."""

import unittest

from tearwords.books import book_of
from tearwords.desks import Desk, trial
from tearwords.fitting import count_fits, fits, is_reading, restored
from tearwords.hints import confused_with, least_hint
from tearwords.machines import has_word, is_machine
from tearwords.pairs import confused, is_sure
from tearwords.safety import greatest_most, rival_of, unsafe_word
from tearwords.sums import best_check, check_sum, differences, is_enough
from tearwords.tears import readings_of
from tests.samples import ALL_ENDS, EVEN, ONE_STATE, RING, RULES, TWO_WORDS, strings_to
from tests.slow import BOUND_OF, left_set, plainly_confused, some_machines, words_to
from tests.slow_desk import outcome

SMALL = (
    [EVEN, TWO_WORDS, ONE_STATE, ("ab", ((0, None),), (0,)), ("ab", ((1, 1), (2, 2), (0, 0)), (0,)),
     ("ab", ((1, None), (None, 2), (None, 0)), (0,)), ("ab", ((1, 2), (1, 3), (3, 2), (None, None)), (3,))]
    + some_machines("a", 3, 4) + some_machines("ab", 2, 5) + some_machines("ab", 3, 8) + some_machines("ab", 4, 10)
)
MANY = SMALL + [RING, ALL_ENDS] + some_machines("abc", 3, 5) + some_machines("abc", 4, 5) + some_machines("ab", 6, 6)
# For what asks for many answers of each machine.
FEWER = MANY[::3]


def letters_of(told):
    """How many letters both words of a told pair have, or None."""
    return None if told is None else len(told[0] + told[1])


def renumbered(machine):
    """The same machine with its states in another order; state 0 stays where it is."""
    letters, states, ends = machine
    many = len(states)
    place = [0] + list(range(many - 1, 0, -1))
    turned = [None] * many
    for at, state in enumerate(states):
        turned[place[at]] = tuple([None if goal is None else place[goal] for goal in state])
    return letters, tuple(turned), tuple(sorted([place[end] for end in ends]))


def with_idle_states(machine):
    """The machine with a state from which no word ends in place of None, and one that nothing leads to."""
    letters, states, ends = machine
    many = len(states)
    filled = tuple([tuple([many if goal is None else goal for goal in state]) for state in states])
    return letters, filled + ((many,) * len(letters), (0,) * len(letters)), ends + (many + 1,)


def with_a_state_twice(machine):
    """The machine with its state 0 twice, of which the second one is reached by letters."""
    letters, states, ends = machine
    many = len(states)
    states = tuple([tuple([many if goal == 0 else goal for goal in state]) for state in states])
    return letters, states + (states[0],), ends + (many,) if 0 in ends else ends


def backwards(machine):
    """The machine of all words backwards, or None if it needs more than six states."""
    letters, states, ends = machine
    found = [frozenset(ends)]
    rows = []
    while len(rows) < len(found):
        row = []
        for at in range(len(letters)):
            before = frozenset([n for n in range(len(states)) if states[n][at] in found[len(rows)]])
            if before and before not in found:
                found.append(before)
            row.append(found.index(before) if before else None)
        rows.append(tuple(row))
    told = (letters, tuple(rows), tuple([at for at, some in enumerate(found) if 0 in some]))
    return told if len(rows) <= 6 else None


class AgreementTest(unittest.TestCase):
    def test_sure_machines_have_each_reading_restored(self):
        seen = 0
        for machine in MANY:
            words = words_to(machine, 6 if len(machine[0]) < 3 else 4)
            for rule in RULES:
                if is_sure(machine, rule):
                    for word in words:
                        for reading in readings_of(rule, word):
                            seen += 1
                            self.assertEqual(restored(machine, rule, reading), word, (machine, rule))
                            self.assertEqual(count_fits(machine, rule, [reading]), 1)
        self.assertGreater(seen, 1000)

    def test_confused_words_are_not_restored(self):
        for machine in MANY:
            for rule in RULES:
                told = confused(machine, rule)
                if told is not None:
                    word, other, reading = told
                    self.assertIsNone(restored(machine, rule, reading))
                    self.assertIs(is_reading(machine, rule, reading), True)
                    self.assertGreater(count_fits(machine, rule, [reading]), 1)
                    words = fits(machine, rule, [reading], 40)
                    self.assertTrue(len(words) == 40 or word in words and other in words)

    def check_same_answers(self, machine, other):
        self.assertTrue(is_machine(other))
        words = words_to(machine, 4)[:12]
        self.assertEqual(words_to(other, 4)[:12], words)
        for rule in RULES:
            where = (machine, other, rule)
            self.assertEqual(letters_of(confused(other, rule)), letters_of(confused(machine, rule)), where)
            self.assertIs(is_sure(other, rule), is_sure(machine, rule))
            self.assertIs(book_of(other, rule) is None, book_of(machine, rule) is None)
            for reading in {reading for word in words for reading in readings_of(rule, word)}:
                self.assertEqual(fits(other, rule, [reading], 40), fits(machine, rule, [reading], 40), where)
                self.assertEqual(count_fits(other, rule, [reading]), count_fits(machine, rule, [reading]))
                self.assertEqual(restored(other, rule, reading), restored(machine, rule, reading))
            for text in strings_to("ab?*", 2):
                self.assertIs(is_reading(other, rule, text), is_reading(machine, rule, text))
            for kind in ("first", "last"):
                self.assertEqual(least_hint(other, rule, kind), least_hint(machine, rule, kind), where)
                self.assertEqual(letters_of(confused_with(other, rule, (kind, 1))),
                                 letters_of(confused_with(machine, rule, (kind, 1))))
            self.check_same_sums(machine, other, rule)
            self.check_same_safety(machine, other, rule, words)
            self.check_same_desks(machine, other, rule, words)
        for kind, bound in BOUND_OF.items():
            for least in range(bound + 1):
                self.assertEqual(greatest_most(other, kind, least), greatest_most(machine, kind, least))

    def check_same_sums(self, machine, other, rule):
        self.assertEqual(differences(other, rule), differences(machine, rule), (machine, other, rule))
        self.assertEqual(best_check(other, rule), best_check(machine, rule))
        for check in ((1, (0,)), (2, (0, 1)), (3, (1, 2)), (5, (1, 4))):
            check = (check[0], (check[1] * 2)[:len(machine[0])])
            self.assertIs(is_enough(other, rule, check), is_enough(machine, rule, check))
            self.assertEqual(check_sum(other, check, "a"), check_sum(machine, check, "a"))

    def check_same_safety(self, machine, other, rule, words):
        sizes = [None if told is None else len(told) for told in (unsafe_word(machine, rule), unsafe_word(other, rule))]
        self.assertEqual(*sizes)
        for word in words[:6]:
            self.assertIs(rival_of(other, rule, word) is None, rival_of(machine, rule, word) is None)

    def check_same_desks(self, machine, other, rule, words):
        for guarded in (False, True):
            desks = [Desk(some, rule, guarded) for some in (machine, other)]
            things = [("admit", word) for word in words[:5]] + [("bear", rule[1])]
            for name, given in things + [("admit", "aabab")] + [("strike", word) for word in words[:2]]:
                self.assertEqual(*[outcome(getattr(desk, name), given) for desk in desks])
                self.assertEqual(*[(desk.words(), desk.rivals(), desk.rule, len(desk)) for desk in desks])
                for reading in {reading for word in words[:5] for reading in left_set(rule, word)}:
                    self.assertEqual(*[outcome(desk.ask, reading) for desk in desks])
            self.assertEqual(*[outcome(trial, desk, [things]) for desk in desks])

    def test_machines_of_the_same_words(self):
        for machine in SMALL[::4]:
            for other in (renumbered(machine), with_idle_states(machine), with_a_state_twice(machine)):
                self.check_same_answers(machine, other)

    def test_fewer_words_of_a_sure_machine(self):
        seen = 0
        for letters, states, ends in MANY:
            for rule in RULES:
                if len(ends) > 1 and is_sure((letters, states, ends), rule):
                    for end in ends:
                        fewer = tuple([other for other in ends if other != end])
                        seen += 1
                        self.assertIs(is_sure((letters, states, fewer), rule), True)
        self.assertGreater(seen, 50)

    def test_words_backwards(self):
        seen = 0
        for machine in FEWER:
            turned = backwards(machine)
            if turned is None:
                continue
            seen += 1
            self.assertEqual(sorted([word[::-1] for word in words_to(turned, 4)]), sorted(words_to(machine, 4)))
            for rule in RULES:
                for kind, other_kind in (("first", "last"), ("last", "first")):
                    for k in range(rule[2] + 1):
                        told = confused_with(machine, rule, (kind, k))
                        back = confused_with(turned, rule, (other_kind, k))
                        self.assertEqual(letters_of(told), letters_of(back), (machine, rule, kind, k))
                        if told is not None:
                            read = tuple([part[::-1] for part in told])
                            self.assertTrue(has_word(turned, read[0]) and has_word(turned, read[1]))
                            self.assertTrue(plainly_confused(rule, (other_kind, k), read))
                            self.assertIs(is_sure(turned, rule), False)
                    self.assertEqual(least_hint(machine, rule, kind), least_hint(turned, rule, other_kind))
                self.check_backwards(machine, turned, rule)
        self.assertGreater(seen, 8)

    def check_backwards(self, machine, turned, rule):
        self.assertEqual(differences(machine, rule), differences(turned, rule))
        told, back = unsafe_word(machine, rule), unsafe_word(turned, rule)
        self.assertEqual(None if told is None else len(told), None if back is None else len(back))
        for word in words_to(machine, 3)[:5]:
            told = rival_of(machine, rule, word)
            self.assertIs(told is None, rival_of(turned, rule, word[::-1]) is None)
            if told is not None:
                self.assertTrue(has_word(turned, told[0][::-1]))
                self.assertTrue({told[1][::-1]} <= left_set(rule, word[::-1]) & left_set(rule, told[0][::-1]))

    def test_greater_hints_confuse_no_more(self):
        for machine in FEWER:
            for rule in RULES:
                for kind in ("first", "last"):
                    told = [letters_of(confused_with(machine, rule, (kind, k))) for k in (0, 1, 2, 3)]
                    self.assertEqual(told[0], letters_of(confused(machine, rule)))
                    for less, more in zip(told, told[1:]):
                        self.assertTrue(more is None or less is not None and less <= more, (machine, rule, kind, told))

    def test_hints_of_most_letters_under_open_and_faded(self):
        for machine in FEWER:
            for rule in RULES:
                for kind in ("first", "last"):
                    if rule[0] in ("open", "faded"):
                        self.assertIsNone(confused_with(machine, rule, (kind, rule[2])), (machine, rule))
                        self.assertIsNotNone(least_hint(machine, rule, kind))
                    told = least_hint(machine, rule, kind)
                    for k in range(4):
                        if told is not None and k >= told:
                            self.assertIsNone(confused_with(machine, rule, (kind, k)))

    def test_sure_machines_by_all_their_answers(self):
        seen = {True: 0, False: 0}
        for machine in MANY:
            noughts = (0,) * len(machine[0])
            for rule in RULES:
                sure = is_sure(machine, rule)
                seen[sure] += 1
                self.assertIs(unsafe_word(machine, rule) is None, sure)
                self.assertIs(differences(machine, rule) == [], sure)
                self.assertIs(best_check(machine, rule) == (1, noughts), sure)
                self.assertIs(greatest_most(machine, rule[0], rule[1]) in range(rule[2], 4), sure)
                if sure:
                    for word in words_to(machine, 4)[:4]:
                        self.assertIsNone(rival_of(machine, rule, word))
        self.assertGreater(min(seen.values()), 100)

    def test_kinds_and_greater_mosts_confuse_no_less(self):
        for machine in MANY:
            for kind, least, most in RULES:
                if not is_sure(machine, (kind, least, most)):
                    for greater in range(most, BOUND_OF[kind] + 1):
                        self.assertIs(is_sure(machine, (kind, least, greater)), False)
                    if kind == "faded":
                        self.assertIs(is_sure(machine, ("open", least, most)), False)
                    self.assertIs(is_sure(machine, ("closed", least, most)), False)

    def test_desks_of_sure_machines_are_never_doubtful(self):
        seen = 0
        for machine in MANY:
            for rule in RULES:
                if not is_sure(machine, rule):
                    continue
                desk = Desk(machine, rule)
                words = words_to(machine, 6 if len(machine[0]) < 3 else 4)[:20]
                for word in words:
                    desk.admit(word)
                # Also with a lesser most, and one that is put up to the first one again.
                for most in (rule[2], rule[1], rule[2]):
                    desk.bear(most)
                    self.assertEqual(desk.rivals(), [])
                    for word in words:
                        for reading in left_set(desk.rule, word):
                            seen += 1
                            self.assertEqual(desk.ask(reading), ("certain", word))
        self.assertGreater(seen, 1000)

    def test_guarded_desks_are_never_doubtful(self):
        refused = 0
        for machine in MANY:
            words = words_to(machine, 5 if len(machine[0]) < 3 else 3)[:10]
            for rule in RULES:
                desk = Desk(machine, rule, guarded=True)
                for name, given in [("admit", word) for word in words] + [("bear", most) for most in range(4)]:
                    refused += outcome(getattr(desk, name), given)[0] == "raised"
                    self.assertEqual(desk.rivals(), [])
                for word in words:
                    for reading in left_set(desk.rule, word):
                        self.assertIn(desk.ask(reading)[0], ("certain", "foreign"))
        self.assertGreater(refused, 1000)


if __name__ == "__main__":
    unittest.main()
