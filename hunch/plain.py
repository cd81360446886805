"""Runs by plain rows, a row at a time."""

from hunch.values import SIGNS, is_so, worked


class State:
    """A run: where it is, and all that has come of it so far."""

    def __init__(self, names, most):
        self.names = dict(names)
        self.stack = []
        self.place = 0
        self.left = most
        self.said = []
        self.last = None

    def stand(self, place):
        """The run is at that place from then on."""
        self.place = place


def walked(code, names, most):
    """A run to its end: what was told, how it ended, and the names."""
    state = State(names, most)
    while state.last is None:
        do_row(code, state)
    return state.said, state.last, state.names


def do_row(code, state):
    """Does the row at the state's place."""
    row = code[state.place]
    word = row[0]
    if word in SIGNS:
        do_sign(word, state)
    elif word == "top":
        do_top(state)
    elif word == "end":
        state.last = ("done",)
    elif word == "go":
        state.stand(row[1])
    elif word == "unless":
        do_unless(row[1], state)
    else:
        do_step(row, state)
        state.stand(state.place + 1)


def do_sign(sign, state):
    """Puts what a sign makes in the stead of the last two, or ends mixed."""
    made = worked(sign, state.stack[-2], state.stack[-1])
    if made is None:
        state.last = ("mixed", state.place)
    else:
        state.stack[-2:] = [made]
        state.stand(state.place + 1)


def do_top(state):
    """Counts a turn and goes on, or ends dry."""
    if took_turn(state):
        state.stand(state.place + 1)


def took_turn(state):
    """Counts a turn; where none is left it ends dry instead, and False is given."""
    if state.left > 0:
        state.left -= 1
        return True
    # Not one less than it is: a run that ended dry has -1 left, though
    # the row is done once more, or the run began with fewer than none.
    state.left = -1
    state.last = ("dry",)
    return False


def do_unless(target, state):
    """Goes to the target where the last value does not count as yes."""
    if is_so(state.stack.pop()):
        state.stand(state.place + 1)
    else:
        state.stand(target)


def do_step(row, state):
    """Does a row behind which the next one always follows."""
    word = row[0]
    if word == "name":
        state.stack.append(state.names.get(row[1], 0))
    elif word == "say":
        state.said.append(state.stack.pop())
    elif word == "set":
        state.names[row[1]] = state.stack.pop()
    else:
        state.stack.append(row[1])
