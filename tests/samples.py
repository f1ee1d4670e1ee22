"""Machines, odd values and slow but plain answers, with which the tests compare."""

from itertools import combinations, product

# Words with an even number of b: the machine of the document.
EVEN = ("ab", ((0, 1), (1, 0)), (0,))
ONE_STATE = ("a", ((0,),), (0,))
# Just the words ab and ba.
TWO_WORDS = ("ab", ((1, 2), (None, 3), (3, None), (None, None)), (3,))
# Any letter leads on around; each sixth state ends.
RING = ("abc", ((1, 1, 1), (2, 2, 2), (3, 3, 3), (4, 4, 4), (5, 5, 5), (0, 0, 0)), (0,))
THREE_LETTERS = ("cmz", ((0, 0, 0),), (0,))
ALL_ENDS = ("abc", ((1, None, 0), (2, 2, None), (3, 4, 5), (0, None, 5), (5, 5, 5), (None, 0, 1)), (0, 1, 2, 3, 4, 5))

RULES = [
    (kind, least, most)
    for kind, bound in (("faded", 3), ("open", 3), ("closed", 3), ("doubled", 2))
    for most in range(bound + 1)
    for least in range(most + 1)
]


def deep(depth, kind):
    """A value nested so deep: lists, tuples, or dicts."""
    value = 7
    for _ in range(depth):
        value = {"a": value} if kind is dict else kind([value])
    return value


def odd_values():
    """Values of every kind that may stand where a thing is asked for, none of them a machine or a rule."""
    return [
        None, True, False, 0, 1, -1, 10 ** 12, -10 ** 12,
        "", "a", "ab", "faded", " ~", "?*", "x" * 1000,
        (), [], {}, (None,), [None], {"a": None}, {0: 1}, {(1, 2): [3]},
        (0,), (0, 1), (0, 1, 2), (0, 1, 2, 3), [0, 1, 2], ("a", "b", "c"), ((), (), ()), ([], [], []), ({}, {}, {}),
        (True, False, None), (None, None, None), [[], {}, ()],
        deep(12, list), deep(12, tuple), deep(12, dict),
        list(range(100000)), tuple(range(100000)), {n: n for n in range(100000)},
    ]


def exchanged(thing, part):
    """All values that come from the thing by putting part in place of one part of it, however deep, or of it all."""
    found = [part]
    if isinstance(thing, (list, tuple)):
        for at in range(len(thing)):
            for inner in exchanged(thing[at], part):
                new = list(thing)
                new[at] = inner
                found.append(new if isinstance(thing, list) else tuple(new))
    return found


def is_number_to(value, low, high):
    return type(value) is int and low <= value <= high


LETTERS = ["".join(some) for many in (1, 2, 3) for some in combinations("abcdefghijklmnopqrstuvwxyz", many)]


def plainly_machine(thing):
    """Point 2, told once more and by other means."""
    if type(thing) is not tuple or [type(part) for part in thing] != [str, tuple, tuple]:
        return False
    letters, states, ends = thing
    if letters not in LETTERS or len(states) not in (1, 2, 3, 4, 5, 6):
        return False
    for state in states:
        if type(state) is not tuple or len(state) != len(letters):
            return False
        for goal in state:
            if goal is not None and not is_number_to(goal, 0, len(states) - 1):
                return False
    for end in ends:
        if not is_number_to(end, 0, len(states) - 1):
            return False
    return list(ends) == sorted(set(ends))


def plainly_rule(thing):
    """Point 3, told once more: one of the 36 rules, and without a bool."""
    if type(thing) is not tuple or [type(part) for part in thing] != [str, int, int]:
        return False
    return thing in RULES


def neighbours(thing):
    """Things that come from this one by leaving out, doubling or turning round parts, and by other kinds of values."""
    found = [list(thing) if isinstance(thing, tuple) else tuple(thing), thing[::-1], thing + thing]
    for at in range(len(thing)):
        found.append(thing[:at] + thing[at + 1:])
        found.append(thing[:at + 1] + thing[at:])
        part = thing[at]
        others = []
        if isinstance(part, (list, tuple)) or isinstance(part, str) and len(part) > 1:
            others = neighbours(part)
        elif isinstance(part, int):
            others = [part - 1, part + 1, -part, bool(part), str(part), [part], (part,)]
        if isinstance(thing, (list, tuple)):
            for other in others:
                found.append(thing[:at] + type(thing)([other]) + thing[at + 1:])
    return found


def strings_to(letters, most):
    """All strings of the letters with at most so many of them, in the order of words."""
    return ["".join(signs) for size in range(most + 1) for signs in product(letters, repeat=size)]


def reads(machine, word, state=0):
    """Whether the machine, in this state, ends well with the word: told letter by letter from its table."""
    letters, states, ends = machine
    if word == "":
        return state in ends
    step = dict(zip(letters, states[state]))[word[0]]
    return step is not None and reads(machine, word[1:], step)


def left_of(kind, word, at, size):
    """The reading that is left of the word, told sign by sign."""
    stretch = range(at, at + size)
    if kind == "faded":
        return "".join(["?" if n in stretch else word[n] for n in range(len(word))])
    if kind == "closed":
        return "".join([word[n] for n in range(len(word)) if n not in stretch])
    if kind == "open":
        return "".join([word[n] for n in range(at)] + ["*"] + [word[n] for n in range(at + size, len(word))])
    return "".join([word[n] for n in range(at + size)] + [word[n] for n in range(at, len(word))])


def all_left_of(rule, word):
    """All different readings of the word, by trying more places and sizes than there are."""
    kind, least, most = rule
    found = []
    for at in range(len(word) + 2):
        for size in range(least, most + 1):
            if at + size <= len(word):
                reading = left_of(kind, word, at, size)
                if reading not in found:
                    found.append(reading)
    return sorted(found, key=lambda reading: (len(reading), reading))
