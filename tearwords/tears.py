"""Rules of tears and the readings that they leave."""

from tearwords.errors import NoRule, NoStretch
from tearwords.plain import SMALL_LETTERS, in_order, is_whole, need_word

BOUNDS = {"faded": 3, "open": 3, "closed": 3, "doubled": 2}


def is_rule(thing):
    """True for a rule, False for any other value."""
    if not isinstance(thing, tuple) or len(thing) != 3:
        return False
    kind, least, most = thing
    # A list or a dict can't be looked up among the kinds.
    if not isinstance(kind, str) or kind not in BOUNDS:
        return False
    return is_whole(most, 0, BOUNDS[kind]) and is_whole(least, 0, most)


def need_rule(rule):
    """Raise NoRule for a value that is no rule."""
    if not is_rule(rule):
        raise NoRule("a rule is a tuple of a kind, a least and a most")


def tear(rule, word, at, size):
    """The reading that is left of the word when size letters from the one with the number at are harmed."""
    need_rule(rule)
    need_word(word, SMALL_LETTERS)
    _need_stretch(rule, word, at, size)
    return _torn(rule[0], word, at, size)


def _need_stretch(rule, word, at, size):
    _, least, most = rule
    if not is_whole(size, least, most) or not is_whole(at, 0, len(word) - size):
        raise NoStretch("at and size must tell a stretch of the word that the rule harms")


def _torn(kind, word, at, size):
    before = word[:at]
    stretch = word[at:at + size]
    behind = word[at + size:]
    if kind == "faded":
        return before + "?" * size + behind
    if kind == "open":
        return before + "*" + behind
    if kind == "closed":
        return before + behind
    return before + stretch + stretch + behind


def readings_of(rule, word):
    """The list of all different readings of the word, fewer signs first, then as strings."""
    need_rule(rule)
    need_word(word, SMALL_LETTERS)
    return in_order(all_readings(rule, word))


def all_readings(rule, word):
    """A dict with the readings of the word as its keys; rule and word are known to be some."""
    kind, least, most = rule
    return {_torn(kind, word, at, size): True for at, size in _stretches(least, most, len(word))}


def first_shared(readings, others):
    """The first of the readings that is among the others, both being dicts of them, or None."""
    for reading in readings:
        if reading in others:
            return reading
    return None


def _stretches(least, most, many):
    """The list of (at, size) of all stretches of a word with so many letters."""
    return [(at, size) for size in range(least, most + 1) for at in range(many - size + 1)]
