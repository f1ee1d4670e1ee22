"""A slow but plain desk, with which the tests compare: it keeps each of its states whole, and asks all words anew."""

from functools import cache

from tearwords.errors import (
    NoCount, NoDeed, NoReading, NotThere, NoUndo, NoWord, Rivals, TearError, TooGreat, Twice,
)
from tests.samples import reads, strings_to
from tests.slow import BOUND_OF, left_set, pairs_among


@cache
def readings_of_strings(rule, letters):
    """All readings of all strings of few letters, so that no reading of at most three signs is missing."""
    return frozenset([reading for word in strings_to(letters, 6) for reading in left_set(rule, word)])


def plainly_reading(letters, rule, thing):
    """Whether a thing of at most three signs is a reading."""
    return type(thing) is str and thing in readings_of_strings(rule, letters)


def plainly_word(machine, thing):
    return type(thing) is str and len(thing) <= 200 and set(thing) <= set(machine[0]) and reads(machine, thing)


class SlowDesk:
    def __init__(self, machine, rule, guarded=False):
        self.machine = machine
        self.guarded = guarded
        self.states = [((), rule)]

    def words(self):
        return sorted(self.states[-1][0], key=lambda word: (len(word), word))

    @property
    def rule(self):
        return self.states[-1][1]

    def rivals(self):
        return pairs_among(self.rule, self.words())

    def __len__(self):
        return len(self.states[-1][0])

    def deed(self, words, rule):
        if self.guarded and pairs_among(rule, words):
            raise Rivals("")
        if len(words) > 40 or len(self.states) > 100:
            raise TooGreat("")
        self.states = self.states + [(tuple(words), rule)]

    def admit(self, word):
        if not plainly_word(self.machine, word):
            raise NoWord("")
        if word in self.words():
            raise Twice("")
        self.deed(self.words() + [word], self.rule)

    def strike(self, word):
        if not plainly_word(self.machine, word):
            raise NoWord("")
        if word not in self.words():
            raise NotThere("")
        words = self.words()
        words.remove(word)
        self.deed(words, self.rule)

    def bear(self, most):
        kind, least, _ = self.rule
        if type(most) is not int or most not in range(least, BOUND_OF[kind] + 1):
            raise NoCount("")
        self.deed(self.words(), (kind, least, most))

    def undo(self):
        if len(self.states) == 1:
            raise NoUndo("")
        self.states = self.states[:-1]

    def ask(self, reading):
        if not plainly_reading(self.machine[0], self.rule, reading):
            raise NoReading("")
        words = [word for word in self.words() if reading in left_set(self.rule, word)]
        if not words:
            return ("foreign",)
        return ("certain", words[0]) if len(words) == 1 else ("doubtful", words)

    def __enter__(self):
        self.outer = getattr(self, "outer", []) + [self.states]
        return self

    def __exit__(self, *told):
        self.states = self.outer[-1]
        self.outer = self.outer[:-1]


def slow_trial(desk, things):
    """What a trial of things of the right form returns."""
    told = []
    with desk:
        for thing in things:
            if type(thing) is list:
                told.append(slow_trial(desk, thing))
            elif type(thing) is tuple and len(thing) == 2 and thing[0] in ("admit", "strike", "bear", "ask"):
                answer = getattr(desk, thing[0])(thing[1])
                told.append(answer if thing[0] == "ask" else len(desk))
            elif type(thing) is str and thing == "undo":
                desk.undo()
                told.append(len(desk))
            else:
                raise NoDeed("")
    return told


def outcome(call, *given):
    """What the call returns, or the class of the error that it raises."""
    try:
        return ("returned", call(*given))
    except TearError as error:
        return ("raised", type(error))
