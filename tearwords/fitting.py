"""Readings of strings, and the words of a machine that fit them."""

from tearwords.errors import NoReading
from tearwords.machines import MOST_TOLD, need_machine, state_behind
from tearwords.plain import MOST_SIGNS, in_order, is_text, need_count, strings_of
from tearwords.tears import need_rule

MOST_READINGS = 6


def is_reading(machine, rule, thing):
    """True for a reading that some string of the machine's letters has by the rule, False for any other value."""
    need_machine(machine)
    need_rule(rule)
    return _can_be_read(machine[0], rule, thing)


def _can_be_read(letters, rule, thing):
    if not isinstance(thing, str):
        return False
    kind, least, most = rule
    unharmed = thing
    if kind == "open":
        if thing.count("*") != 1:
            return False
        unharmed = thing.replace("*", "")
    if kind == "faded":
        many = thing.count("?")
        if not least <= many <= most:
            return False
        # Where they stand apart none is taken out, and what is left is no string of letters.
        unharmed = thing.replace("?" * many, "", 1)
    if not is_text(unharmed, letters, len(unharmed)):
        return False
    return kind != "doubled" or len(_double_gaps(least, most, thing)) > 0


def need_reading(machine, rule, reading):
    """Raise NoReading for what is no reading that may be passed; machine and rule are known to be some."""
    if not _can_be_read(machine[0], rule, reading) or len(reading) > MOST_SIGNS:
        raise NoReading(f"a reading by this rule has at most {MOST_SIGNS} signs")


def _need_readings(machine, rule, readings):
    if not isinstance(readings, list) or not 1 <= len(readings) <= MOST_READINGS:
        raise NoReading(f"a list of 1 to {MOST_READINGS} readings is needed")
    for reading in readings:
        need_reading(machine, rule, reading)


def fits(machine, rule, readings, many):
    """The list of the first so many words of the machine that fit all the readings."""
    need_machine(machine)
    need_rule(rule)
    _need_readings(machine, rule, readings)
    need_count(many, 0, MOST_TOLD)
    return in_order(_words_with_all(machine, rule, readings))[:many]


def count_fits(machine, rule, readings):
    """The number of the words of the machine that fit all the readings."""
    need_machine(machine)
    need_rule(rule)
    _need_readings(machine, rule, readings)
    return len(_words_with_all(machine, rule, readings))


def restored(machine, rule, reading):
    """The only word of the machine that fits the reading, or None if none or several do."""
    need_machine(machine)
    need_rule(rule)
    need_reading(machine, rule, reading)
    words = list(_words_with(machine, rule, reading))
    return words[0] if len(words) == 1 else None


def _words_with_all(machine, rule, readings):
    """The list of the words that fit all the readings, each once."""
    words = list(_words_with(machine, rule, readings[0]))
    for reading in readings[1:]:
        others = _words_with(machine, rule, reading)
        words = [word for word in words if word in others]
    return words


def _words_with(machine, rule, reading):
    """A dict with the words that fit the reading as its keys."""
    # What stands before and behind a gap is walked once for all gaps, which may be many in a long reading.
    behind_beginnings = _states_behind_beginnings(machine, reading)
    before_rests = _states_before_rests(machine, reading)
    words = {}
    for at, rest, stretches in _gaps(machine[0], rule, reading):
        for stretch in stretches:
            if state_behind(machine, behind_beginnings[at], stretch) in before_rests[rest]:
                words[reading[:at] + stretch + reading[rest:]] = True
    return words


def _states_behind_beginnings(machine, reading):
    """The list of the states behind no sign of the reading, one sign, two signs and so on; None if there is none."""
    found = [0]
    for sign in reading:
        found.append(_state_behind_sign(machine, found[-1], sign))
    return found


def _states_before_rests(machine, reading):
    """For each place in the reading, the list of the states from which what stands behind leads to an end."""
    _, states, ends = machine
    found = [list(ends)]
    for sign in reading[::-1]:
        goals = found[-1]
        found.append([at for at in range(len(states)) if _state_behind_sign(machine, at, sign) in goals])
    return found[::-1]


def _state_behind_sign(machine, state, sign):
    # A reading is walked to its end, also over signs that stand for harmed letters, by which no state is reached.
    return state_behind(machine, state, sign) if sign in machine[0] else None


def _gaps(letters, rule, reading):
    """The list of (at, rest, stretches): the words reading[:at] + stretch + reading[rest:] have the reading."""
    kind, least, most = rule
    if kind == "doubled":
        return _double_gaps(least, most, reading)
    if kind == "closed":
        stretches = strings_of(letters, least, most)
        return [(at, at, stretches) for at in range(len(reading) + 1)]
    if kind == "open":
        at = reading.index("*")
        return [(at, at + 1, strings_of(letters, least, most))]
    many = reading.count("?")
    # Where nothing is faded an empty stretch at the beginning tells the same word as one elsewhere.
    at = max(0, reading.find("?"))
    return [(at, at + many, strings_of(letters, many, many))]


def _double_gaps(least, most, reading):
    """The gaps under "doubled": each place where as many letters as may be doubled stand twice."""
    found = []
    for size in range(least, most + 1):
        for at in range(len(reading) - 2 * size + 1):
            stretch = reading[at:at + size]
            if stretch == reading[at + size:at + 2 * size]:
                found.append((at, at + 2 * size, [stretch]))
    return found
