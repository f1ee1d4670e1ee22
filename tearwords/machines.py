"""Machines and the words that are of them."""

from tearwords.errors import NoMachine, NoWord
from tearwords.plain import SMALL_LETTERS, is_ascending, is_text, is_whole, need_count, need_word

MOST_LETTERS = 3
MOST_STATES = 6
MOST_TOLD = 40


def is_machine(thing):
    """True for a machine, False for any other value."""
    if not isinstance(thing, tuple) or len(thing) != 3:
        return False
    letters, states, ends = thing
    if not _are_letters(letters):
        return False
    return _are_states(states, len(letters)) and _are_ends(ends, len(states))


def _are_letters(thing):
    if not is_text(thing, SMALL_LETTERS, MOST_LETTERS):
        return False
    return len(thing) > 0 and is_ascending(thing)


def _are_states(thing, width):
    if not isinstance(thing, tuple) or not 1 <= len(thing) <= MOST_STATES:
        return False
    return all([_is_state(state, width, len(thing)) for state in thing])


def _is_state(thing, width, many):
    if not isinstance(thing, tuple) or len(thing) != width:
        return False
    return all([goal is None or is_whole(goal, 0, many - 1) for goal in thing])


def _are_ends(thing, many):
    if not isinstance(thing, tuple):
        return False
    # What is no number must be found before anything is compared.
    return all([is_whole(end, 0, many - 1) for end in thing]) and is_ascending(thing)


def need_machine(machine):
    """Raise NoMachine for a value that is no machine."""
    if not is_machine(machine):
        raise NoMachine("a machine is a tuple of letters, states and ends")


def has_word(machine, word):
    """True if the word is of the machine."""
    need_machine(machine)
    need_word(word, machine[0])
    return state_behind(machine, 0, word) in machine[2]


def need_word_of(machine, word):
    """Raise NoWord for what is no word of the machine that may be passed; machine is known to be one."""
    need_word(word, machine[0])
    if state_behind(machine, 0, word) not in machine[2]:
        raise NoWord("the word is not of the machine")


def state_behind(machine, state, word):
    """The state to which the word leads from this one, or None."""
    letters, states, _ = machine
    for letter in word:
        if state is None:
            return None
        state = states[state][letters.index(letter)]
    return state


def first_words(machine, many):
    """The list of the first so many words of the machine, of all if there are fewer."""
    need_machine(machine)
    need_count(many, 0, MOST_TOLD)
    # A beginning that leads to no end is dropped, else one could go on for ever without a word.
    live = live_states(machine)
    begun = [("", 0)] if 0 in live else []
    words = []
    while begun and len(words) < many:
        words = words + [word for word, state in begun if state in machine[2]]
        begun = _longer_by_one(machine, live, begun)
    return words[:many]


def live_states(machine):
    """The list of the states from which some word, perhaps an empty one, leads to an end."""
    _, states, ends = machine
    live = list(ends)
    # Each round finds the states that are one letter farther from an end.
    for _ in states:
        live = [at for at in range(len(states)) if at in live or _leads_into(states[at], live)]
    return live


def _leads_into(state, live):
    return any([goal in live for goal in state])


def _longer_by_one(machine, live, begun):
    """The beginnings, in their order, with one more letter each; begun and letters ascend, so these do."""
    letters, states, _ = machine
    longer = []
    for word, state in begun:
        for letter, goal in zip(letters, states[state]):
            if goal in live:
                longer.append((word + letter, goal))
    return longer
