"""Kinds of tears compared: what one kind confuses, another one confuses, too."""

from tearwords.errors import NoReading, NoRule, NoWord
from tearwords.plain import MOST_SIGNS, SMALL_LETTERS, need_word
from tearwords.tears import all_readings, first_shared, need_rule


def as_open(rule, word, other, reading):
    """A reading under "open" of two different words that have this one under "faded"."""
    _need_kind(rule, ("faded",))
    _need_shared(rule, word, other, reading)
    return _shared_under("open", rule, word, other)


def as_closed(rule, word, other, reading):
    """A reading under "closed" of two different words that have this one under "open" or "doubled"."""
    _need_kind(rule, ("open", "doubled"))
    _need_shared(rule, word, other, reading)
    return _shared_under("closed", rule, word, other)


def _need_kind(rule, kinds):
    need_rule(rule)
    if rule[0] not in kinds:
        raise NoRule("the rule is of another kind")


def _need_shared(rule, word, other, reading):
    need_word(word, SMALL_LETTERS)
    need_word(other, SMALL_LETTERS)
    if word == other:
        raise NoWord("two different words are needed")
    # What is no string perhaps can't be looked up.
    if not isinstance(reading, str) or len(reading) > MOST_SIGNS:
        raise NoReading(f"a reading of at most {MOST_SIGNS} signs is needed")
    if reading not in all_readings(rule, word) or reading not in all_readings(rule, other):
        raise NoReading("both words must have the reading")


def _shared_under(kind, rule, word, other):
    """The first reading that both words have under the kind and the rule's least and most."""
    _, least, most = rule
    compared = (kind, least, most)
    return first_shared(all_readings(compared, word), all_readings(compared, other))
