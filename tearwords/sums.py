"""Check sums that are read besides a torn word, and the differences of confused words that they must tell."""

from tearwords.books import FIRST_ROW, is_bad, steps_of
from tearwords.errors import NoCheck
from tearwords.machines import need_machine
from tearwords.pairs import live_moves
from tearwords.plain import is_whole, need_word
from tearwords.tears import need_rule

MOST_MODULUS = 5


def differences(machine, rule):
    """The ascending list of the differences of confused words, each once, with its first number above 0."""
    need_machine(machine)
    need_rule(rule)
    return _all_differences(machine, rule)


def _all_differences(machine, rule):
    moves = live_moves(machine, rule)
    noughts = (0,) * len(machine[0])
    # A spot is a row and the difference of its letters so far; tears are short, so there are but few differences.
    spots = [(FIRST_ROW, noughts)]
    seen = {spots[0]: True}
    told = {}
    at = 0
    while at < len(spots):
        row, difference = spots[at]
        # The same row with its sides changed about is found too, and tells the difference the other way round.
        if difference >= noughts and is_bad(machine, row):
            told[difference] = True
        for _, letters, others, goal in steps_of(moves, row):
            spot = (goal, _difference_behind(machine[0], difference, letters, others))
            if spot not in seen:
                seen[spot] = True
                spots.append(spot)
        at += 1
    return sorted(told)


def _difference_behind(alphabet, difference, letters, others):
    """The difference when these letters are added to the one's and those to the other's."""
    if letters == others:
        return difference
    more = [letters.count(letter) - others.count(letter) for letter in alphabet]
    return tuple([number + added for number, added in zip(difference, more)])


def check_sum(machine, check, word):
    """The sum of the weights of the word's letters modulo the check's m."""
    need_machine(machine)
    _need_check(machine, check)
    need_word(word, machine[0])
    modulus, weights = check
    return sum([weights[machine[0].index(letter)] for letter in word]) % modulus


def is_enough(machine, rule, check):
    """True if no two confused words have the same check sum."""
    need_machine(machine)
    need_rule(rule)
    _need_check(machine, check)
    return _tells_all(check, _all_differences(machine, rule))


def best_check(machine, rule):
    """The first check, by m and then by weights, that is enough, or None."""
    need_machine(machine)
    need_rule(rule)
    found = _all_differences(machine, rule)
    for modulus in range(1, MOST_MODULUS + 1):
        for weights in _all_weights(len(machine[0]), modulus):
            if _tells_all((modulus, weights), found):
                return (modulus, weights)
    return None


def _tells_all(check, found):
    """True if two words with one of the differences that were found never have the same check sum."""
    modulus, weights = check
    for difference in found:
        if sum([number * weight for number, weight in zip(difference, weights)]) % modulus == 0:
            return False
    return True


def _all_weights(many, modulus):
    """The ascending list of all weights for so many letters."""
    found = [()]
    for _ in range(many):
        found = [weights + (weight,) for weights in found for weight in range(modulus)]
    return found


def _need_check(machine, check):
    if not _is_check(check, len(machine[0])):
        raise NoCheck("a check is a tuple of an m from 1 to 5 and weights below m for the letters")


def _is_check(thing, many):
    if not isinstance(thing, tuple) or len(thing) != 2:
        return False
    modulus, weights = thing
    if not is_whole(modulus, 1, MOST_MODULUS) or not isinstance(weights, tuple) or len(weights) != many:
        return False
    return all([is_whole(weight, 0, modulus - 1) for weight in weights])
