"""Hints: what is told of the harmed stretch besides the reading."""

from tearwords.errors import NoHint
from tearwords.machines import need_machine
from tearwords.pairs import least_pair, told_by
from tearwords.plain import SMALL_LETTERS, is_whole, need_word
from tearwords.tears import need_rule

MOST_HINTED = 3


def hinted(hint, stretch):
    """The letters of the stretch that the hint tells."""
    _need_hint(hint)
    need_word(stretch, SMALL_LETTERS)
    return told_by(hint, stretch)


def confused_with(machine, rule, hint):
    """Two words with as few letters as any confused by a reading with the hint, and this reading; or None."""
    need_machine(machine)
    need_rule(rule)
    _need_hint(hint)
    return least_pair(machine, rule, hint)


def least_hint(machine, rule, kind):
    """The least number of letters, up to the rule's most, of a hint that confuses no words, or None."""
    need_machine(machine)
    need_rule(rule)
    _need_hint((kind, 0))
    for many in range(rule[2] + 1):
        if least_pair(machine, rule, (kind, many)) is None:
            return many
    return None


def _need_hint(hint):
    if not _is_hint(hint):
        raise NoHint("a hint is a tuple of first or last and an integer from 0 to 3")


def _is_hint(thing):
    if not isinstance(thing, tuple) or len(thing) != 2:
        return False
    kind, many = thing
    return (kind == "first" or kind == "last") and is_whole(many, 0, MOST_HINTED)
