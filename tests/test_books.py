"""Points 6 and 7 and the interface's stage 6: sides, their moves, and books of rows."""

import unittest

from tearwords.books import book_of, moves_of, shows_book
from tearwords.errors import NoMachine, NoRule, NoSide
from tearwords.pairs import confused, is_sure
from tests.samples import (
    ALL_ENDS, EVEN, ONE_STATE, RING, RULES, TWO_WORDS, all_left_of, exchanged, neighbours, odd_values,
)
from tests.slow import (
    FIRST, START, all_sides, plain_lag, plain_moves, plain_steps, plainly_bad, plainly_book, plainly_row, plainly_side,
    rows_from, some_machines, words_to,
)

# a leads around, b only from state 1 on, and from state 2 nothing does.
GAPS = ("ab", ((1, None), (0, 2), (None, None)), (2,))
SMALL = (
    [EVEN, TWO_WORDS, GAPS, ONE_STATE, ("ab", ((0, 0),), ()), ("ab", ((1, 1), (2, 2), (0, 0)), (0,)),
     ("ab", ((1, None), (None, 2), (None, 0)), (0,))]
    + some_machines("ab", 2, 5) + some_machines("ab", 3, 8) + some_machines("ab", 4, 8)
)


class MovesTest(unittest.TestCase):
    def test_worked_example(self):
        machine = ('ab', ((0, 1), (1, 0)), (0,))
        told = [moves_of(machine, ('open', 0, 1), ('whole', 0, '')), book_of(machine, ('closed', 1, 1)),
                shows_book(machine, ('faded', 1, 1), [])]
        self.assertEqual(told, [[('*', '', ('torn', 0, '')), ('*', 'a', ('torn', 0, '')), ('*', 'b', ('torn', 1, '')),
                                 ('a', 'a', ('whole', 0, '')), ('b', 'b', ('whole', 1, ''))], None, False])

    def test_whole_open_and_closed(self):
        self.assertEqual(moves_of(GAPS, ("closed", 1, 2), ("whole", 0, "")),
                         [("", "a", ("torn", 1, "")), ("", "aa", ("torn", 0, "")), ("", "ab", ("torn", 2, "")),
                          ("a", "a", ("whole", 1, ""))])
        self.assertEqual(moves_of(GAPS, ("open", 2, 2), ("whole", 0, "")),
                         [("*", "aa", ("torn", 0, "")), ("*", "ab", ("torn", 2, "")), ("a", "a", ("whole", 1, ""))])
        self.assertEqual(moves_of(GAPS, ("closed", 0, 0), ("whole", 1, "")),
                         [("", "", ("torn", 1, "")), ("a", "a", ("whole", 0, "")), ("b", "b", ("whole", 2, ""))])
        self.assertEqual(moves_of(GAPS, ("open", 0, 3), ("whole", 2, "")), [("*", "", ("torn", 2, ""))])
        self.assertEqual(moves_of(GAPS, ("open", 1, 3), ("whole", 2, "")), [])

    def test_whole_faded(self):
        self.assertEqual(moves_of(GAPS, ("faded", 0, 1), ("whole", 1, "")),
                         [("", "", ("torn", 1, "")), ("?", "a", ("fading", 0, "?")), ("?", "b", ("fading", 2, "?")),
                          ("a", "a", ("whole", 0, "")), ("b", "b", ("whole", 2, ""))])
        self.assertEqual(moves_of(GAPS, ("faded", 1, 3), ("whole", 0, "")),
                         [("?", "a", ("fading", 1, "?")), ("a", "a", ("whole", 1, ""))])
        self.assertEqual(moves_of(GAPS, ("faded", 0, 0), ("whole", 0, "")),
                         [("", "", ("torn", 0, "")), ("a", "a", ("whole", 1, ""))])
        self.assertEqual(moves_of(GAPS, ("faded", 0, 2), ("whole", 2, "")), [("", "", ("torn", 2, ""))])
        self.assertEqual(moves_of(GAPS, ("faded", 1, 2), ("whole", 2, "")), [])

    def test_whole_doubled(self):
        self.assertEqual(moves_of(GAPS, ("doubled", 0, 1), ("whole", 1, "")),
                         [("", "", ("torn", 1, "")), ("a", "a", ("once", 0, "a")), ("a", "a", ("whole", 0, "")),
                          ("b", "b", ("once", 2, "b")), ("b", "b", ("whole", 2, ""))])
        self.assertEqual(moves_of(GAPS, ("doubled", 2, 2), ("whole", 0, "")),
                         [("a", "a", ("once", 1, "a")), ("a", "a", ("whole", 1, ""))])
        self.assertEqual(moves_of(GAPS, ("doubled", 0, 0), ("whole", 0, "")),
                         [("", "", ("torn", 0, "")), ("a", "a", ("whole", 1, ""))])

    def test_fading(self):
        self.assertEqual(moves_of(GAPS, ("faded", 2, 3), ("fading", 1, "?")),
                         [("?", "a", ("fading", 0, "??")), ("?", "b", ("fading", 2, "??"))])
        self.assertEqual(moves_of(GAPS, ("faded", 2, 3), ("fading", 1, "??")),
                         [("", "", ("torn", 1, "")), ("?", "a", ("fading", 0, "???")), ("?", "b", ("fading", 2, "???"))])
        self.assertEqual(moves_of(GAPS, ("faded", 2, 3), ("fading", 1, "???")), [("", "", ("torn", 1, ""))])
        self.assertEqual(moves_of(GAPS, ("faded", 0, 1), ("fading", 1, "?")), [("", "", ("torn", 1, ""))])
        self.assertEqual(moves_of(GAPS, ("faded", 2, 2), ("fading", 2, "?")), [])

    def test_once_and_twice(self):
        self.assertEqual(moves_of(GAPS, ("doubled", 1, 2), ("once", 1, "a")),
                         [("", "", ("twice", 1, "a")), ("a", "a", ("once", 0, "aa")), ("b", "b", ("once", 2, "ab"))])
        self.assertEqual(moves_of(GAPS, ("doubled", 2, 2), ("once", 1, "a")),
                         [("a", "a", ("once", 0, "aa")), ("b", "b", ("once", 2, "ab"))])
        self.assertEqual(moves_of(GAPS, ("doubled", 0, 1), ("once", 1, "a")), [("", "", ("twice", 1, "a"))])
        self.assertEqual(moves_of(GAPS, ("doubled", 1, 2), ("once", 1, "ba")), [("", "", ("twice", 1, "ba"))])
        self.assertEqual(moves_of(GAPS, ("doubled", 2, 2), ("once", 2, "b")), [])
        self.assertEqual(moves_of(GAPS, ("doubled", 1, 2), ("twice", 1, "ba")), [("b", "", ("twice", 1, "a"))])
        self.assertEqual(moves_of(GAPS, ("doubled", 1, 2), ("twice", 2, "a")), [("a", "", ("torn", 2, ""))])

    def test_torn(self):
        for rule in RULES:
            self.assertEqual(moves_of(GAPS, rule, ("torn", 0, "")), [("a", "a", ("torn", 1, ""))])
            self.assertEqual(moves_of(GAPS, rule, ("torn", 1, "")),
                             [("a", "a", ("torn", 0, "")), ("b", "b", ("torn", 2, ""))])
            self.assertEqual(moves_of(GAPS, rule, ("torn", 2, "")), [])

    def test_all_sides_against_the_point_told_once_more(self):
        for machine in SMALL + [RING, ALL_ENDS]:
            for rule in RULES:
                for side in all_sides(machine, rule):
                    told = moves_of(machine, rule, side)
                    self.assertEqual(told, plain_moves(machine, rule, side), (machine, rule, side))
                    self.assertEqual(len(set(told)), len(told))
                    for sign, letters, goal in told:
                        self.assertTrue(plainly_side(machine, rule, goal))
                        self.assertEqual([type(sign), type(letters)], [str, str])

    def test_moves_read_all_readings_of_all_words_and_no_others(self):
        for machine in (EVEN, TWO_WORDS, GAPS, SMALL[-1]):
            for rule in RULES:
                right = {(reading, word) for word in words_to(machine, 4) for reading in all_left_of(rule, word)}
                found = set()
                behind = {("", "", START)}
                while behind:
                    found |= {(reading, word) for reading, word, side in behind
                              if side[0] == "torn" and side[1] in machine[2]}
                    behind = {(reading + sign, word + letters, goal) for reading, word, side in behind
                              for sign, letters, goal in moves_of(machine, rule, side) if len(word + letters) <= 4}
                self.assertEqual(found, right, (machine, rule))

    def test_no_side_of_another_kind(self):
        for rule in RULES:
            for phase, held, kind in (("fading", "?", "faded"), ("once", "a", "doubled"), ("twice", "a", "doubled")):
                side = (phase, 0, held)
                if rule[0] == kind and rule[2] > 0:
                    self.assertEqual(moves_of(EVEN, rule, side), plain_moves(EVEN, rule, side))
                else:
                    with self.assertRaises(NoSide):
                        moves_of(EVEN, rule, side)

    def test_no_side(self):
        for rule, side in (
            (("open", 0, 1), ("whole", 2, "")), (("open", 0, 1), ("whole", -1, "")), (("open", 0, 1), ("torn", 2, "")),
            (("open", 0, 1), ("whole", True, "")), (("open", 0, 1), ("torn", False, "")),
            (("open", 0, 1), ("whole", None, "")), (("open", 0, 1), ("whole", "0", "")), (("open", 0, 1), ("whole", (0,), "")),
            (("open", 0, 1), ("whole", 0, "a")), (("open", 0, 1), ("torn", 0, "?")), (("open", 0, 1), ("whole", 0, None)),
            (("open", 0, 1), ("whole", 0, ())), (("open", 0, 1), ("whole", 0, [])), (("open", 0, 1), ("whole", 0)),
            (("open", 0, 1), ("whole", 0, "", "")), (("open", 0, 1), ["whole", 0, ""]), (("open", 0, 1), ("Whole", 0, "")),
            (("open", 0, 1), ("", 0, "")), (("open", 0, 1), (["whole"], 0, "")), (("open", 0, 1), ({}, 0, "")),
            (("open", 0, 1), ("", "whole", 0)), (("open", 0, 1), (("whole", 0, ""),)), (("open", 0, 1), [("whole", 0, "")]),
            (("faded", 1, 2), ("fading", 0, "")), (("faded", 1, 2), ("fading", 0, "???")),
            (("faded", 0, 3), ("fading", 0, "????")), (("faded", 1, 2), ("fading", 0, "a")),
            (("faded", 1, 2), ("fading", 0, "?a")), (("faded", 1, 2), ("fading", 2, "?")),
            (("faded", 1, 2), ("fading", True, "?")), (("faded", 1, 2), ("fading", 0, ("?",))),
            (("faded", 1, 2), ("fading", 0, ["?"])), (("faded", 1, 2), ["fading", 0, "?"]),
            (("faded", 0, 0), ("fading", 0, "?")), (("faded", 1, 2), ("torn", 0, "?")), (("faded", 1, 2), ("whole", 0, "?")),
            (("doubled", 1, 2), ("once", 0, "")), (("doubled", 1, 2), ("twice", 0, "")),
            (("doubled", 0, 2), ("once", 0, "")), (("doubled", 0, 2), ("twice", 0, "")),
            (("doubled", 1, 1), ("once", 0, "ab")), (("doubled", 1, 1), ("twice", 0, "ab")),
            (("doubled", 1, 2), ("once", 0, "aba")), (("doubled", 1, 2), ("twice", 0, "aba")),
            (("doubled", 1, 2), ("once", 0, "c")), (("doubled", 1, 2), ("twice", 0, "ac")),
            (("doubled", 1, 2), ("once", 0, "?")), (("doubled", 0, 0), ("once", 0, "a")), (("doubled", 0, 0), ("twice", 0, "a")),
            (("doubled", 1, 2), ("once", True, "a")), (("doubled", 1, 2), ("twice", 2, "a")),
            (("doubled", 1, 2), ("once", 0, ["a"])), (("doubled", 1, 2), ["once", 0, "a"]),
            (("doubled", 1, 2), ("torn", 0, "a")), (("doubled", 1, 2), ("fading", 0, "?")),
        ):
            with self.assertRaises(NoSide):
                moves_of(EVEN, rule, side)
        for side in odd_values():
            with self.assertRaises(NoSide):
                moves_of(EVEN, ("doubled", 0, 2), side)

    def test_sides_that_nothing_leads_to(self):
        self.assertEqual(moves_of(("ab", ((0, 0), (1, None)), ()), ("faded", 1, 1), ("torn", 1, "")),
                         [("a", "a", ("torn", 1, ""))])
        # No letter a leads to state 2, but there are the state and the letter.
        self.assertEqual(moves_of(GAPS, ("doubled", 1, 1), ("once", 2, "a")), [("", "", ("twice", 2, "a"))])

    def test_neighbours_of_sides(self):
        for rule in (("open", 0, 1), ("faded", 1, 2), ("doubled", 1, 2)):
            for side in all_sides(EVEN, rule):
                for thing in neighbours(side):
                    if plainly_side(EVEN, rule, thing):
                        self.assertEqual(moves_of(EVEN, rule, thing), plain_moves(EVEN, rule, thing))
                    else:
                        with self.assertRaises(NoSide):
                            moves_of(EVEN, rule, thing)

    def test_order_of_errors(self):
        for machine in odd_values() + [list(EVEN)]:
            with self.assertRaises(NoMachine):
                moves_of(machine, None, None)
        for rule in odd_values() + [["open", 0, 1], ("open", 0, True)]:
            with self.assertRaises(NoRule):
                moves_of(EVEN, rule, None)


def sure_ones():
    """All (machine, rule, book) of the small machines and the rules under which they are sure."""
    for machine in SMALL:
        for rule in RULES:
            book = book_of(machine, rule)
            if book is not None:
                yield machine, rule, book


class BooksTest(unittest.TestCase):
    def test_none_exactly_where_the_machine_is_not_sure(self):
        seen = {True: 0, False: 0}
        for machine in SMALL + [RING, ALL_ENDS] + some_machines("abc", 3, 4):
            for rule in RULES:
                book = book_of(machine, rule)
                sure = is_sure(machine, rule)
                seen[sure] += 1
                self.assertIs(book is not None, sure, (machine, rule))
                if sure:
                    self.assertIs(type(book), list)
                    self.assertIs(shows_book(machine, rule, book), True, (machine, rule))
        self.assertGreater(min(seen.values()), 100)

    def test_told_books_are_books(self):
        for machine, rule, book in sure_ones():
            self.assertTrue(plainly_book(machine, rule, book), (machine, rule))
            self.assertEqual(set(rows_from(machine, rule, FIRST)) - set(book), set())

    def test_all_reached_rows_are_none_with_a_bad_one(self):
        for machine in (EVEN, ("ab", ((0, 0),), (0,)), TWO_WORDS):
            for rule in RULES:
                rows = rows_from(machine, rule, FIRST)
                self.assertIs(shows_book(machine, rule, rows), confused(machine, rule) is None, (machine, rule))

    def test_without_any_one_row(self):
        for machine, rule, book in sure_ones():
            if len(book) < 100:
                reached = rows_from(machine, rule, FIRST)
                for row in reached:
                    self.assertIs(shows_book(machine, rule, [other for other in book if other != row]), False)

    def test_other_orders_and_rows_twice(self):
        for machine, rule, book in sure_ones():
            for thing in (book[::-1], book + book, book[1:] + book[:1], book + book[-1:], sorted(book)):
                self.assertIs(shows_book(machine, rule, thing), True)
            turned = {"+": "-", "-": "+", "=": "=", "#": "#"}
            self.assertIs(shows_book(machine, rule, [(two, one, turned[lag[0]] + lag[1:]) for one, two, lag in book]), True)

    def test_first_row_alone(self):
        self.assertIs(shows_book(EVEN, ("open", 0, 1), [FIRST]), False)
        # No letter leads on and none can be harmed, so there is no step.
        still = ("ab", ((None, None),), (0,))
        self.assertIs(shows_book(still, ("open", 1, 2), [FIRST]), True)
        self.assertEqual(book_of(still, ("open", 1, 2)), [FIRST])
        self.assertIs(shows_book(still, ("open", 0, 2), [FIRST]), False)
        self.assertIs(shows_book(still, ("open", 0, 2), [FIRST, (("torn", 0, ""), ("torn", 0, ""), "=")]), True)
        self.assertIs(shows_book(still, ("closed", 0, 2), [FIRST, (("torn", 0, ""), ("torn", 0, ""), "=")]), False)
        self.assertIs(shows_book(still, ("closed", 0, 2), [
            FIRST, (("torn", 0, ""), ("torn", 0, ""), "="), (("torn", 0, ""), START, "="), (START, ("torn", 0, ""), "="),
        ]), True)
        self.assertIs(shows_book(still, ("open", 1, 2), []), False)
        self.assertIs(shows_book(still, ("open", 1, 2), [(("torn", 0, ""), ("torn", 0, ""), "=")]), False)

    def test_bad_rows(self):
        still = ("ab", ((None, None), (None, None)), (0,))
        done, other = ("torn", 0, ""), ("torn", 1, "")
        for lag in ("+a", "-a", "+bb", "-ab", "#"):
            self.assertIs(shows_book(still, ("open", 1, 1), [FIRST, (done, done, lag)]), False, lag)
            for row in ((done, other, lag), (other, done, lag), (other, other, lag), (START, done, lag), (done, START, lag)):
                self.assertIs(shows_book(still, ("open", 1, 1), [FIRST, row]), True, row)
        self.assertIs(shows_book(still, ("open", 1, 1), [FIRST, (done, done, "=")]), True)

    def test_rows_that_nothing_leads_to(self):
        counts = {True: 0, False: 0}
        for machine, rule in ((EVEN, ("faded", 1, 1)), (TWO_WORDS, ("doubled", 0, 1)), (GAPS, ("closed", 1, 1)),
                              (GAPS, ("open", 1, 2)), (GAPS, ("doubled", 2, 2)), (ONE_STATE, ("doubled", 1, 1))):
            book = book_of(machine, rule)
            sides = all_sides(machine, rule)
            rows = [(one, other, lag) for one in sides for other in sides for lag in ("=", "#", "+a", "-b", "+ab", "-aaaa")]
            for row in rows[::max(1, len(rows) // 120)]:
                if not plainly_row(machine, rule, row):
                    continue
                added = rows_from(machine, rule, row)
                right = not any([plainly_bad(machine, goal) for goal in added])
                counts[right] += 1
                self.assertIs(shows_book(machine, rule, book + added), right, (machine, rule, row))
                self.assertIs(shows_book(machine, rule, added[::-1] + book), right)
                for goal in added[1:2]:
                    without = [some for some in book + added if some != goal]
                    self.assertIs(shows_book(machine, rule, without), plainly_book(machine, rule, without))
        self.assertGreater(min(counts.values()), 50)

    def test_lags(self):
        still = ("ab", ((None, None),), ())
        rule = ("open", 1, 1)
        side = ("torn", 0, "")
        for lag in ("=", "#", "+a", "+b", "-a", "-b", "+ab", "-bbb", "+" + "ab" * 100, "-" + "a" * 999):
            self.assertIs(shows_book(still, rule, [FIRST, (side, side, lag)]), True, lag)
        for lag in ("", "+", "-", "==", "=a", "##", "#a", "a", "ab", "+c", "-A", "+a ", " +a", "+-a", "++a", "+a-b", "*a",
                    "+?", "+a*", "a+", "-" + "a" * 998 + "c", None, True, 0, 1, (), ("+", "a"), ["+a"], [], {}, b"="):
            self.assertIs(shows_book(still, rule, [FIRST, (side, side, lag)]), False, lag)

    def test_lag_behind_steps(self):
        # The rows of these books have letters ahead on both sides.
        lags = {row[2] for machine, rule, book in sure_ones() for row in book}
        for lag in ("=", "#", "+a", "-a", "+ab", "-ab", "+ba", "-ba"):
            self.assertIn(lag, lags)
        for machine, rule, book in sure_ones():
            if len(book) < 60:
                for row in book:
                    for goal in plain_steps(machine, rule, row):
                        self.assertIn(goal, book)

    def test_rows_of_other_forms(self):
        rule = ("faded", 0, 1)
        book = book_of(EVEN, rule)
        self.assertIs(shows_book(EVEN, rule, book), True)
        for at, row in enumerate(book):
            one, other, lag = row
            for wrong in (list(row), (list(one), other, lag), (one, list(other), lag), (one, other), (one, other, lag, lag),
                          (lag, one, other), [row], (row,), None, True, 0, "", one, lag, {}, {row: row},
                          (("Whole", 0, ""), other, lag), (("whole", 0, "a"), other, lag), (("whole", 2, ""), other, lag),
                          (one, ("whole", -1, ""), lag), (one, ("whole", None, ""), lag), (one, ("once", 0, "a"), lag),
                          (one, ("fading", 0, "??"), lag), (("fading", 0, ""), other, lag), (None, other, lag), (one, 0, lag)):
                self.assertIs(shows_book(EVEN, rule, book + [wrong]), False, wrong)
                self.assertIs(shows_book(EVEN, rule, book[:at] + [wrong] + book[at + 1:]), False, wrong)
            for state in (0, 1):
                bools = [(phase, bool(number), held) for phase, number, held in (one, other)]
                self.assertIs(shows_book(EVEN, rule, book + [(bools[0], other, lag)]), False, state)
                self.assertIs(shows_book(EVEN, rule, book + [(one, bools[1], lag)]), False, state)
        for thing in (tuple(book), {row: True for row in book}, {0: book}, [book], (book,), [tuple(book)], set(book)):
            self.assertIs(shows_book(EVEN, rule, thing), False)

    def test_books_with_parts_exchanged(self):
        parts = [None, True, False, 0, 1, 2, "", "=", "#", "+a", "-b", "whole", "torn", "once", "?", (), [], FIRST, START]
        for machine, rule in ((EVEN, ("faded", 1, 1)), (GAPS, ("closed", 1, 1)), (("a", ((1,), (0,)), (1,)), ("doubled", 1, 1))):
            book = book_of(machine, rule)
            for part in parts:
                for thing in exchanged(book, part):
                    self.assertIs(shows_book(machine, rule, thing), plainly_book(machine, rule, thing), thing)
            for thing in neighbours(book):
                self.assertIs(shows_book(machine, rule, thing), plainly_book(machine, rule, thing), thing)

    def test_books_of_others(self):
        counts = {True: 0, False: 0}
        books = list(sure_ones())[::7]
        for machine, rule, book in books:
            if len(book) < 40:
                for other, other_rule, _ in books[::3]:
                    right = plainly_book(other, other_rule, book)
                    counts[right] += 1
                    self.assertIs(shows_book(other, other_rule, book), right, (machine, rule, other, other_rule))
        self.assertGreater(min(counts.values()), 10)

    def test_values_of_every_kind(self):
        for rule in (("faded", 1, 1), ("open", 0, 3), ("doubled", 0, 2)):
            for thing in odd_values():
                for nested in (thing, [thing], (thing,), {"a": thing}, [FIRST, thing], [(START, thing, "=")],
                               [(thing, START, "=")], [(START, START, thing)], [thing] * 3, (FIRST, FIRST, thing)):
                    self.assertIs(shows_book(EVEN, rule, nested), False)
        self.assertIs(shows_book(("ab", ((None, None),), ()), ("open", 1, 1), [FIRST] * 100000), True)
        self.assertIs(shows_book(("ab", ((None, None),), ()), ("open", 1, 1), [FIRST] * 99999 + [list(FIRST)]), False)

    def test_plain_rows_are_told_apart(self):
        # So that the comparisons above compare with something.
        self.assertTrue(plainly_row(EVEN, ("open", 0, 1), FIRST))
        self.assertFalse(plainly_row(EVEN, ("open", 0, 1), (START, START, "+")))
        self.assertEqual([plain_lag("+ab", "", "ab"), plain_lag("-a", "ab", ""), plain_lag("=", "a", "b"),
                          plain_lag("+a", "b", "ac"), plain_lag("#", "a", "a"), plain_lag("-b", "a", "")],
                         ["=", "+b", "#", "#", "#", "#"])

    def test_no_machine_and_no_rule(self):
        for machine in odd_values() + [list(EVEN)]:
            with self.assertRaises(NoMachine):
                book_of(machine, None)
            with self.assertRaises(NoMachine):
                shows_book(machine, None, [])
        for rule in odd_values() + [["open", 0, 1], ("open", 0, True)]:
            with self.assertRaises(NoRule):
                book_of(EVEN, rule)
            with self.assertRaises(NoRule):
                shows_book(EVEN, rule, None)


if __name__ == "__main__":
    unittest.main()
