"""Runs by quick rows, until they fall back or all is over."""

from hunch.plain import took_turn
from hunch.values import SIGNS, is_so, kind_of, worked


def run_quick(rows, state):
    """Runs quick rows from a state: the place of the row by which they fell back, or -1."""
    slots = {}
    at = 0
    while True:
        row = rows[at]
        word = row[0]
        at += 1
        if word == "again":
            at = 0
        elif word == "turn":
            # The state stands at the top all the while, as it must where it ends.
            if not took_turn(state):
                return -1
        elif word in ("is", "so", "leave"):
            if not goes_on(row, slots):
                fall_back(row[-1], slots, state)
                return at - 1
        else:
            do_quick_row(row, slots, state)


def goes_on(row, slots):
    """Whether a row that can fall back goes on instead."""
    word = row[0]
    if word == "is":
        return kind_of(slots[row[1]]) == row[2]
    if word == "so":
        return is_so(slots[row[1]]) == (row[2] == 1)
    return False


def fall_back(way_out, slots, state):
    """Makes the state what plain rows go on from, by an exit."""
    place, pairs, half = way_out
    for name, slot in pairs:
        state.names[name] = slots[slot]
    state.stack[:] = [slots[slot] for slot in half]
    state.stand(place)


def do_quick_row(row, slots, state):
    """Does a row behind which the next one always follows."""
    word = row[0]
    if word in SIGNS:
        slots[row[2]] = worked(word, slots[row[3]], slots[row[4]])
    elif word == "get":
        slots[row[1]] = state.names.get(row[2], 0)
    elif word == "say":
        state.said.append(slots[row[1]])
    elif word == "put":
        state.names[row[1]] = slots[row[2]]
    else:
        slots[row[1]] = row[2]
