"""Sides, their moves, and the books of rows that show a machine to be sure."""

from tearwords.errors import NoSide
from tearwords.machines import need_machine, state_behind
from tearwords.plain import is_text, is_whole, strings_of
from tearwords.tears import need_rule

FIRST_ROW = (("whole", 0, ""), ("whole", 0, ""), "=")


def moves_of(machine, rule, side):
    """The ascending list of the moves (sign, letters, side) of the side."""
    need_machine(machine)
    need_rule(rule)
    if not _is_side(machine, _phases(machine, rule), side):
        raise NoSide("a side is a phase, a state and what is held, of the machine and the rule")
    return _moves(machine, rule, side)


def _phases(machine, rule):
    """The list of all (phase, held) that sides by the rule can have."""
    kind, _, most = rule
    found = [("whole", ""), ("torn", "")]
    if kind == "faded":
        found.extend([("fading", held) for held in strings_of("?", 1, most)])
    if kind == "doubled":
        held_letters = strings_of(machine[0], 1, most)
        found.extend([(phase, held) for phase in ("once", "twice") for held in held_letters])
    return found


def _is_side(machine, phases, thing):
    if not isinstance(thing, tuple) or len(thing) != 3:
        return False
    phase, state, held = thing
    return is_whole(state, 0, len(machine[1]) - 1) and (phase, held) in phases


def _moves(machine, rule, side):
    phase, state, held = side
    if phase == "whole":
        return sorted(_moves_of_whole(machine, rule, state))
    if phase == "twice":
        if len(held) == 1:
            return [(held, "", ("torn", state, ""))]
        return [(held[0], "", ("twice", state, held[1:]))]
    if phase == "torn":
        return [(letter, letter, ("torn", goal, "")) for letter, goal in _ways_on(machine, state, 1, 1)]
    return sorted(_moves_within_stretch(machine, rule, side))


def _ways_on(machine, state, least, most):
    """The list of (string, state behind it) of all strings of least to most letters that lead on."""
    texts = strings_of(machine[0], least, most)
    ways = [(text, state_behind(machine, state, text)) for text in texts]
    return [(text, goal) for text, goal in ways if goal is not None]


def _moves_of_whole(machine, rule, state):
    kind, least, most = rule
    found = [(letter, letter, ("whole", goal, "")) for letter, goal in _ways_on(machine, state, 1, 1)]
    if kind == "open" or kind == "closed":
        sign = "*" if kind == "open" else ""
        found.extend([(sign, text, ("torn", goal, "")) for text, goal in _ways_on(machine, state, least, most)])
        return found
    if most > 0:
        found.extend(_moves_into_stretch(machine, kind, state, ""))
    if least == 0:
        found.append(("", "", ("torn", state, "")))
    return found


def _moves_within_stretch(machine, rule, side):
    kind, least, most = rule
    _, state, held = side
    found = []
    if len(held) < most:
        found.extend(_moves_into_stretch(machine, kind, state, held))
    if len(held) >= least:
        goal = ("torn", state, "") if kind == "faded" else ("twice", state, held)
        found.append(("", "", goal))
    return found


def _moves_into_stretch(machine, kind, state, held):
    """The moves by which one more letter is faded, or is read the first time of two."""
    ways = _ways_on(machine, state, 1, 1)
    if kind == "faded":
        return [("?", letter, ("fading", goal, held + "?")) for letter, goal in ways]
    return [(letter, letter, ("once", goal, held + letter)) for letter, goal in ways]


def all_moves(machine, rule):
    """A dict with the list of the moves of each side."""
    sides = [(phase, state, held) for phase, held in _phases(machine, rule) for state in range(len(machine[1]))]
    return {side: _moves(machine, rule, side) for side in sides}


def steps_of(moves, row):
    """The list of (sign, letters, others, row): what one's moves and the other's add, and the row they lead to."""
    one, other, lag = row
    found = []
    for sign, letters, side in moves[one]:
        if sign == "":
            found.append(("", letters, "", (side, other, _lag_behind(lag, letters, ""))))
            continue
        for other_sign, others, other_side in moves[other]:
            if other_sign == sign:
                found.append((sign, letters, others, (side, other_side, _lag_behind(lag, letters, others))))
    for sign, others, side in moves[other]:
        if sign == "":
            found.append(("", "", others, (one, side, _lag_behind(lag, "", others))))
    return found


def _lag_behind(lag, letters, others):
    """How the letters so far are to each other's when these are added to the one's and those to the other's."""
    if lag == "#":
        return "#"
    ahead = lag[1:] + letters if lag[0] == "+" else letters
    other = lag[1:] + others if lag[0] == "-" else others
    if ahead == other:
        return "="
    if ahead.startswith(other):
        return "+" + ahead[len(other):]
    if other.startswith(ahead):
        return "-" + other[len(ahead):]
    return "#"


def is_bad(machine, row):
    """True if both sides of the row are done and their letters are not the same."""
    one, other, lag = row
    return lag != "=" and _is_done(machine, one) and _is_done(machine, other)


def _is_done(machine, side):
    phase, state, _ = side
    return phase == "torn" and state in machine[2]


def book_of(machine, rule):
    """The list of all rows to which steps lead from the first one, or None if one of them is bad."""
    need_machine(machine)
    need_rule(rule)
    moves = all_moves(machine, rule)
    rows = [FIRST_ROW]
    found = {FIRST_ROW: True}
    at = 0
    while at < len(rows):
        row = rows[at]
        if is_bad(machine, row):
            return None
        for step in steps_of(moves, row):
            goal = step[3]
            if goal not in found:
                found[goal] = True
                rows.append(goal)
        at += 1
    return rows


def shows_book(machine, rule, thing):
    """True for a book of the machine and the rule, False for any other value."""
    need_machine(machine)
    need_rule(rule)
    if not isinstance(thing, list):
        return False
    phases = _phases(machine, rule)
    # What is no row perhaps can't be a key, so that all must be rows before any is looked up.
    if not all([_is_row(machine, phases, row) for row in thing]):
        return False
    return _is_closed(machine, rule, {row: True for row in thing})


def _is_row(machine, phases, thing):
    if not isinstance(thing, tuple) or len(thing) != 3:
        return False
    one, other, lag = thing
    return _is_side(machine, phases, one) and _is_side(machine, phases, other) and _is_lag(machine, lag)


def _is_lag(machine, thing):
    if not isinstance(thing, str):
        return False
    if thing == "=" or thing == "#":
        return True
    # A sign without letters behind it would say what "=" says.
    return len(thing) > 1 and thing[0] in "+-" and is_text(thing[1:], machine[0], len(thing))


def _is_closed(machine, rule, rows):
    """True if the rows hold the first one and all to which steps lead from them, and none is bad."""
    if FIRST_ROW not in rows:
        return False
    moves = all_moves(machine, rule)
    for row in rows:
        if is_bad(machine, row) or not all([step[3] in rows for step in steps_of(moves, row)]):
            return False
    return True
