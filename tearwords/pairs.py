"""Pairs of words that leave one reading."""

from heapq import heappop, heappush

from tearwords.books import FIRST_ROW, all_moves, is_bad, steps_of
from tearwords.machines import live_states, need_machine
from tearwords.plain import in_order
from tearwords.tears import need_rule

NO_HINT = ("first", 0)


def confused(machine, rule):
    """Two words with as few letters as any that are confused, and a reading of both; None if there are none."""
    need_machine(machine)
    need_rule(rule)
    return least_pair(machine, rule, NO_HINT)


def is_sure(machine, rule):
    """True if no two words of the machine are confused under the rule."""
    return confused(machine, rule) is None


def told_by(hint, stretch):
    """The letters of the stretch that the hint tells."""
    kind, many = hint
    if kind == "first":
        return stretch[:many]
    return stretch[max(0, len(stretch) - many):]


def least_pair(machine, rule, hint):
    """(word, other, reading) with as few letters as any two confused by a reading with the hint, or None."""
    told = lightest_pair(machine, rule, hint, 1)
    if told is None:
        return None
    word, other, reading = told
    first, second = in_order([word, other])
    return (first, second, reading)


def lightest_pair(machine, rule, hint, weight):
    """Two words confused by a reading with the hint, and the reading, or None.

    None are lighter: letters of the first one weigh 1 each, those of the second one as told.
    """
    moves = live_moves(machine, rule)
    # A spot is a row and what the hint tells of the stretches of its two sides so far.
    queue = [(0, "", "", "", (FIRST_ROW, "", ""))]
    seen = set()
    while queue:
        many, word, other, reading, spot = heappop(queue)
        if spot in seen:
            continue
        seen.add(spot)
        if is_bad(machine, spot[0]):
            return (word, other, reading)
        for sign, letters, others, goal in _steps_with(moves, hint, spot):
            if goal not in seen:
                more = many + len(letters) + weight * len(others)
                heappush(queue, (more, word + letters, other + others, reading + sign, goal))
    return None


def live_moves(machine, rule):
    """The moves of each side, without those that lead to where no word can end."""
    live = live_states(machine)
    moves = all_moves(machine, rule)
    return {side: [move for move in moves[side] if move[2][1] in live] for side in moves}


def _steps_with(moves, hint, spot):
    """The steps of the spot's row, to spots, without those where the hint tells the two stretches apart."""
    row, told, other_told = spot
    found = []
    for sign, letters, others, goal in steps_of(moves, row):
        after = _told_behind(hint, told, letters, row[0][0], goal[0][0])
        other_after = _told_behind(hint, other_told, others, row[1][0], goal[1][0])
        if goal[0][0] == "torn" and goal[1][0] == "torn":
            if after != other_after:
                continue
            # What was told has done its work; without it there are fewer different spots.
            after = other_after = ""
        found.append((sign, letters, others, (goal, after, other_after)))
    return found


def _told_behind(hint, told, letters, phase, next_phase):
    """What the hint tells of the stretch so far, when a move from the phase to the next one has these letters."""
    if phase == "torn" or next_phase == "whole":
        return told
    return told_by(hint, told + letters)
