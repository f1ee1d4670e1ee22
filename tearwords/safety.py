"""How much may be torn at most, and which words are safe."""

from tearwords.books import FIRST_ROW, is_bad, steps_of
from tearwords.errors import NoKind
from tearwords.machines import need_machine, need_word_of
from tearwords.pairs import NO_HINT, is_sure, lightest_pair, live_moves
from tearwords.plain import need_count
from tearwords.tears import BOUNDS, need_rule


def greatest_most(machine, kind, least):
    """The greatest most with which the machine is sure under the kind and the least, or None."""
    need_machine(machine)
    # A list or a dict can't be looked up among the kinds.
    if not isinstance(kind, str) or kind not in BOUNDS:
        raise NoKind("a kind is faded, open, closed or doubled")
    need_count(least, 0, BOUNDS[kind])
    greatest = None
    for most in range(least, BOUNDS[kind] + 1):
        # A greater most confuses what this one does.
        if not is_sure(machine, (kind, least, most)):
            break
        greatest = most
    return greatest


def rival_of(machine, rule, word):
    """(other, reading): a word that this one of the machine is confused with, and a reading of both; or None."""
    need_machine(machine)
    need_rule(rule)
    need_word_of(machine, word)
    moves = live_moves(machine, rule)
    # A spot is a row whose one side reads the word, and how many of its letters that side has.
    spots = [(FIRST_ROW, 0)]
    ways = {spots[0]: None}
    at = 0
    while at < len(spots):
        row, many = spots[at]
        if many == len(word) and is_bad(machine, row):
            return _other_and_reading(ways, spots[at])
        for sign, letters, others, goal in steps_of(moves, row):
            spot = (goal, many + len(letters))
            if word[many:spot[1]] == letters and spot not in ways:
                ways[spot] = (spots[at], sign, others)
                spots.append(spot)
        at += 1
    return None


def _other_and_reading(ways, spot):
    """What the steps to the spot add to the other side's letters and to the reading."""
    other = ""
    reading = ""
    while ways[spot] is not None:
        spot, sign, others = ways[spot]
        other = others + other
        reading = sign + reading
    return (other, reading)


def unsafe_word(machine, rule):
    """A word of the machine with as few letters as any that is not safe, or None."""
    need_machine(machine)
    need_rule(rule)
    # How many letters the word has with which it is confused does not count.
    told = lightest_pair(machine, rule, NO_HINT, 0)
    return None if told is None else told[0]
