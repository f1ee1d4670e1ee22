"""Slow but plain answers for readings, pairs, moves, books, hints and sums, and machines to try them with."""

from functools import cache
from itertools import combinations, product

from tests.samples import all_left_of, is_number_to, left_of, strings_to

BOUND_OF = {"faded": 3, "open": 3, "closed": 3, "doubled": 2}
START = ("whole", 0, "")
FIRST = (START, START, "=")


def some_machines(letters, many, number, seed=1):
    """So many machines with so many states, made one after the other by a simple rule of numbers."""
    found = []
    for _ in range(number):
        rows = []
        for _ in range(many):
            row = []
            for _ in letters:
                seed = (seed * 1103515245 + 12345) % 2 ** 31
                goal = seed // 2 ** 16 % (many + 1)
                row.append(None if goal == many else goal)
            rows.append(tuple(row))
        seed = (seed * 1103515245 + 12345) % 2 ** 31
        told = seed // 2 ** 16 % (2 ** many - 1) + 1
        found.append((letters, tuple(rows), tuple([at for at in range(many) if told >> at & 1])))
    return found


def words_to(machine, most):
    """All words of the machine with at most so many letters."""
    letters, states, ends = machine
    found = []
    begun = [("", 0)]
    for _ in range(most + 1):
        found += [word for word, state in begun if state in ends]
        begun = [
            (word + letter, states[state][at])
            for word, state in begun for at, letter in enumerate(letters) if states[state][at] is not None
        ]
    return sorted(found, key=lambda word: (len(word), word))


def tears_to(rule, letters, most):
    """For each string of at most so many letters, all (reading, stretch) that the rule can leave of it."""
    kind, least, greatest = rule
    return {
        word: {
            (left_of(kind, word, at, size), word[at:at + size])
            for size in range(least, greatest + 1) for at in range(len(word) - size + 1)
        }
        for word in strings_to(letters, most)
    }


def plainly_hinted(hint, stretch):
    kind, many = hint
    if kind == "last":
        return plainly_hinted(("first", many), stretch[::-1])[::-1]
    return "".join([stretch[at] for at in range(len(stretch)) if at < many])


def fewest_letters(tears, words, hint):
    """How many letters two of the words that are confused have at least, or None if none are."""
    # The words stand in their order, so the first two behind one reading have the fewest letters there.
    behind = {}
    for word in words:
        for mark in {(reading, plainly_hinted(hint, stretch)) for reading, stretch in tears[word]}:
            behind.setdefault(mark, []).append(word)
    found = [len(some[0]) + len(some[1]) for some in behind.values() if len(some) > 1]
    return min(found, default=None)


def plainly_confused(rule, hint, told):
    """True if the told words leave the told reading by stretches of which the hint tells the same."""
    word, other, reading = told
    hints = []
    for text in (word, other):
        found = set()
        for size in range(rule[1], rule[2] + 1):
            for at in range(len(text) - size + 1):
                if left_of(rule[0], text, at, size) == reading:
                    found.add(plainly_hinted(hint, text[at:at + size]))
        hints.append(found)
    return bool(hints[0] & hints[1])


def held_by(machine, rule):
    """For each phase, all that a side of the machine and the rule may hold."""
    letters, _, _ = machine
    kind, _, most = rule
    signs = ["".join(some) for size in range(1, most + 1) for some in product(letters, repeat=size)]
    return {
        "whole": [""],
        "torn": [""],
        "fading": ["?", "??", "???"][:most] if kind == "faded" else [],
        "once": signs if kind == "doubled" else [],
        "twice": signs if kind == "doubled" else [],
    }


def all_sides(machine, rule):
    return [
        (phase, state, held)
        for phase, some in held_by(machine, rule).items() for held in some for state in range(len(machine[1]))
    ]


def plainly_side(machine, rule, thing):
    if type(thing) is not tuple or [type(part) for part in thing] != [str, int, str]:
        return False
    phase, state, held = thing
    return held in held_by(machine, rule).get(phase, []) and is_number_to(state, 0, len(machine[1]) - 1)


def goals_of(machine, state, text):
    """A list with the state to which the text leads, or an empty one."""
    for letter in text:
        state = machine[1][state][machine[0].index(letter)]
        if state is None:
            return []
    return [state]


def plain_moves(machine, rule, side):
    """Point 6, told once more: all moves there could be at all, and whether each one is one."""
    letters, _, _ = machine
    kind, least, most = rule
    phase, p, held = side
    found = []
    for c in letters:
        for q in goals_of(machine, p, c):
            if phase in ("whole", "torn"):
                found.append((c, c, (phase, q, "")))
            if kind == "faded" and phase in ("whole", "fading") and len(held) + 1 <= most:
                found.append(("?", c, ("fading", q, held + "?")))
            if kind == "doubled" and phase in ("whole", "once") and len(held) + 1 <= most:
                found.append((c, c, ("once", q, held + c)))
    if phase == "whole" and kind in ("open", "closed"):
        for size in range(least, most + 1):
            for signs in product(letters, repeat=size):
                for q in goals_of(machine, p, signs):
                    found.append(("*" if kind == "open" else "", "".join(signs), ("torn", q, "")))
    if phase == "whole" and kind in ("faded", "doubled") and least == 0:
        found.append(("", "", ("torn", p, "")))
    if phase == "fading" and len(held) >= least:
        found.append(("", "", ("torn", p, "")))
    if phase == "once" and len(held) >= least:
        found.append(("", "", ("twice", p, held)))
    if phase == "twice":
        found.append((held[0], "", ("twice", p, held[1:]) if held[1:] else ("torn", p, "")))
    return sorted(found)


def plain_lag(lag, letters, others):
    """Point 7's lag, by taking away what both have in common."""
    one, other = {"=": ("", ""), "+": (lag[1:], ""), "-": ("", lag[1:]), "#": ("0", "1")}[lag[0]]
    one, other = one + letters, other + others
    while one and other and one[0] == other[0]:
        one, other = one[1:], other[1:]
    if one and other:
        return "#"
    return "+" + one if one else "-" + other if other else "="


def plain_steps(machine, rule, row):
    """All rows to which steps lead from the row."""
    one, other, lag = row
    stay = ("", "", None)
    found = []
    for sign, letters, side in plain_moves(machine, rule, one) + [stay]:
        for other_sign, others, other_side in plain_moves(machine, rule, other) + [stay]:
            alone = (side is None) != (other_side is None)
            if sign == other_sign and alone == (sign == ""):
                found.append((side or one, other_side or other, plain_lag(lag, letters, others)))
    return found


def plainly_bad(machine, row):
    done = [("torn", state, "") for state in machine[2]]
    return row[0] in done and row[1] in done and row[2] != "="


def rows_from(machine, rule, row):
    """The list of the row and all rows to which steps lead from it, however many."""
    found = {row: True}
    behind = [row]
    while behind:
        behind = [goal for last in behind for goal in plain_steps(machine, rule, last)]
        behind = [goal for goal in dict.fromkeys(behind) if goal not in found]
        found.update(dict.fromkeys(behind))
    return list(found)


def plainly_row(machine, rule, thing):
    if type(thing) is not tuple or len(thing) != 3 or type(thing[2]) is not str:
        return False
    if not plainly_side(machine, rule, thing[0]) or not plainly_side(machine, rule, thing[1]):
        return False
    if thing[2] in ("=", "#"):
        return True
    return thing[2][:1] in ("+", "-") and thing[2][1:] != "" and set(thing[2][1:]) <= set(machine[0])


def plainly_book(machine, rule, thing):
    """Point 7, told once more."""
    if type(thing) is not list or not all([plainly_row(machine, rule, row) for row in thing]):
        return False
    rows = set(thing)
    return FIRST in rows and all([
        not plainly_bad(machine, row) and set(plain_steps(machine, rule, row)) <= rows for row in rows
    ])


@cache
def left_set(rule, word):
    """All readings of the word."""
    return frozenset(all_left_of(rule, word))


def pairs_among(rule, words):
    """All (word, other) of these words, the first in the order ahead, that are confused, in their order."""
    words = sorted(words, key=lambda word: (len(word), word))
    return [(word, other) for word, other in combinations(words, 2) if left_set(rule, word) & left_set(rule, other)]


def plain_difference(letters, word, other):
    return tuple([word.count(letter) - other.count(letter) for letter in letters])


def differences_among(machine, rule, words):
    """The ascending list of the differences of all pairs of these words that are confused."""
    found = set()
    for word, other in pairs_among(rule, words):
        told = plain_difference(machine[0], word, other)
        first = [number for number in told if number != 0][:1]
        found.add(told if not first or first[0] > 0 else plain_difference(machine[0], other, word))
    return sorted(found)


def short_machines(letters, many, number, seed=1):
    """Machines whose letters lead on to later states only, so that their words have fewer letters than it has states."""
    found = []
    for _, states, ends in some_machines(letters, many, number, seed):
        rows = []
        for at, state in enumerate(states):
            later = list(range(at + 1, many)) or [None]
            rows.append(tuple([None if goal is None else later[goal % len(later)] for goal in state]))
        # With few words there would be few that are confused: every other machine lets all its states end.
        found.append((letters, tuple(rows), ends if len(found) % 2 else tuple(range(many))))
    return found
