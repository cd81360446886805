"""A machine that runs a program by plain rows, and its hot whiles by quick rows."""

from hunch.making import quick_rows
from hunch.notes import Notes
from hunch.plain import State, do_row
from hunch.quick import run_quick


class Machine:
    """A run of a program, and all that is made on guesses for it."""

    def __init__(self, code, names, most, limits):
        self.code = tuple(code)
        self.state = State(names, most)
        self.notes = Notes({}, {})
        self.hot, self.patience, self.room = limits
        # By top: its quick rows, and how often a guess in them failed since
        # they were made.
        self.quick = {}
        self.failed = {}
        self.all_made = 0
        self.all_failed = 0

    def hint(self, kinds, ways):
        """Takes guesses, which hold until something is noted at their place."""
        self.notes = Notes(kinds, ways)

    def finish(self):
        """Runs to the end: how it ended."""
        while self.state.last is None:
            if self.state.place in self.quick:
                self.go_quick(self.state.place)
            else:
                self.go_plain(self.state.place)
        return self.state.last

    def told(self):
        """What was told."""
        return list(self.state.said)

    def names_now(self):
        """The names that were handed in or set, as they are."""
        return dict(self.state.names)

    def counts(self):
        """How often quick rows were made, and how often a guess in them failed."""
        return self.all_made, self.all_failed

    def go_quick(self, top):
        """Runs the quick rows of a top, and throws them away if they fail too often."""
        rows = self.quick[top]
        by = run_quick(rows, self.state)
        if by >= 0 and rows[by][0] != "leave":
            self.all_failed += 1
            self.failed[top] += 1
            if self.failed[top] > self.patience:
                del self.quick[top]
                self.notes.forget(top)

    def go_plain(self, place):
        """Does a plain row; ahead of that, makes quick rows for a top that is hot."""
        self.notes.see(self.code, self.state)
        if self.code[place] == ("top",) and self.notes.count(place) >= self.hot:
            self.quick[place] = quick_rows(self.code, place, self.notes, self.room)
            self.failed[place] = 0
            self.all_made += 1
        do_row(self.code, self.state)
