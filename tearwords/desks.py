"""Desks, at which words are admitted and readings come in, and trials at them."""

from tearwords.errors import NoDeed, NoDesk, NoKind, NoThings, NotThere, NoUndo, Rivals, TooGreat, Twice
from tearwords.fitting import need_reading
from tearwords.machines import need_machine, need_word_of
from tearwords.plain import in_order, need_count
from tearwords.tears import BOUNDS, all_readings, first_shared, need_rule

MOST_ADMITTED = 40
MOST_DEEDS = 100
MOST_DEEP = 5


class State:
    """How a desk stands behind a deed, and how it stood before it; a state never changes."""

    def __init__(self, admitted, terms, before):
        self.admitted = admitted
        self.terms = terms
        self.before = before
        self.deeds = 0 if before is None else before.deeds + 1


class Stretch:
    """The state at the beginning of a stretch of deeds, and the stretch around it."""

    def __init__(self, state, outer):
        self.state = state
        self.outer = outer


class Desk:
    """Words of a machine that are admitted, and what readings by the rule tell of them."""

    def __init__(self, machine, rule, guarded=False):
        need_machine(machine)
        need_rule(rule)
        if not isinstance(guarded, bool):
            raise NoKind("guarded is True or False")
        self._machine = machine
        self._guarded = guarded
        self._state = State([], rule, None)
        self._stretch = None

    def admit(self, word):
        """Admit a word of the machine."""
        need_word_of(self._machine, word)
        admitted = self._state.admitted
        if word in admitted:
            raise Twice("the word is admitted already")
        self._do(in_order([*admitted, word]), self._state.terms)

    def strike(self, word):
        """Strike a word that is admitted."""
        need_word_of(self._machine, word)
        admitted = self._state.admitted
        if word not in admitted:
            raise NotThere("the word is not admitted")
        self._do([other for other in admitted if other != word], self._state.terms)

    def bear(self, most):
        """Put a most into the rule."""
        kind, least, _ = self._state.terms
        need_count(most, least, BOUNDS[kind])
        self._do(self._state.admitted, (kind, least, most))

    def _do(self, admitted, terms):
        """Let a deed stand, behind which these words are admitted and this rule holds."""
        if self._guarded and _confused_pairs(terms, admitted):
            raise Rivals("two admitted words would be confused")
        if len(admitted) > MOST_ADMITTED or self._state.deeds == MOST_DEEDS:
            raise TooGreat(f"at most {MOST_ADMITTED} words are admitted and {MOST_DEEDS} deeds stand")
        self._state = State(admitted, terms, self._state)

    def undo(self):
        """Take the last deed back that stands."""
        if self._state.before is None:
            raise NoUndo("no deed stands")
        self._state = self._state.before

    def ask(self, reading):
        """What the reading tells of the admitted words: ("certain", word), ("doubtful", words) or ("foreign",)."""
        terms = self._state.terms
        need_reading(self._machine, terms, reading)
        words = [word for word in self._state.admitted if reading in all_readings(terms, word)]
        if len(words) > 1:
            return ("doubtful", words)
        return ("certain", words[0]) if words else ("foreign",)

    def words(self):
        """The list of the admitted words in their order."""
        return list(self._state.admitted)

    def rivals(self):
        """The list of all pairs of admitted words that are confused."""
        return _confused_pairs(self._state.terms, self._state.admitted)

    @property
    def rule(self):
        """The rule that holds."""
        return self._state.terms

    def __len__(self):
        return len(self._state.admitted)

    def __enter__(self):
        self._stretch = Stretch(self._state, self._stretch)
        return self

    def __exit__(self, kind, value, trace):
        self._state = self._stretch.state
        self._stretch = self._stretch.outer


def _confused_pairs(rule, words):
    """The list of all pairs of these words that are confused; the words stand in their order, and so do the pairs."""
    marked = [(word, all_readings(rule, word)) for word in words]
    found = []
    for at, (word, readings) in enumerate(marked):
        for other, others in marked[at + 1:]:
            if first_shared(readings, others) is not None:
                found.append((word, other))
    return found


def trial(desk, things):
    """Do the deeds of the list in turn, each list in a stretch, and return the list of what they tell."""
    if not isinstance(desk, Desk):
        raise NoDesk("a desk is needed")
    if not isinstance(things, list) or _is_too_deep(things):
        raise NoThings(f"a list of deeds and such lists is needed, nested at most {MOST_DEEP} deep")
    return _try_all(desk, things)


def _is_too_deep(things):
    """True if the list holds lists that stand too deep."""
    level = [things]
    for _ in range(MOST_DEEP):
        level = [thing for some in level for thing in some if isinstance(thing, list)]
    return len(level) > 0


def _try_all(desk, things):
    told = []
    with desk:
        for thing in things:
            told.append(_try_all(desk, thing) if isinstance(thing, list) else _try_deed(desk, thing))
    return told


def _try_deed(desk, deed):
    """Do the deed, and return what was asked for or else the number of admitted words."""
    if deed == "undo":
        desk.undo()
        return len(desk)
    if not isinstance(deed, tuple) or len(deed) != 2:
        raise NoDeed("a deed is a tuple of two, or undo")
    name, given = deed
    if name == "ask":
        return desk.ask(given)
    if name == "admit":
        desk.admit(given)
    elif name == "strike":
        desk.strike(given)
    elif name == "bear":
        desk.bear(given)
    else:
        raise NoDeed("a deed is to admit, strike, bear or ask")
    return len(desk)
