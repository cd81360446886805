"""What several tests use: short ways to write programs, and programs by the seed."""

import copy
import random

from hunch.values import worked


def row(*parts):
    return ("row", parts)


def number(n):
    return ("num", n)


def text(t):
    return ("text", t)


def name(x):
    return ("name", x)


def all_tuples(thing):
    """Whether it is tuples of numbers and texts throughout; True is no number."""
    return type(thing) in (int, str) or (
        type(thing) is tuple and all(all_tuples(part) for part in thing))


def seen_of(state):
    """All that a state tells, as long as it isn't changed."""
    return state.place, state.names, state.stack, state.left, state.said, state.last


def told_of(state):
    """All that a state tells, as a copy of its own."""
    return copy.deepcopy(seen_of(state))


class Maker:
    """Makes programs within the limits, the same ones in each run."""

    def __init__(self, seed):
        self.chance = random.Random(seed)

    def expression(self, deep):
        if deep == 1 or self.chance.random() < 0.4:
            return self.chance.choice(
                [("num", self.chance.randrange(10000)), ("text", "ab"), ("text", ""),
                 ("name", self.chance.choice("abcdefgh"))])
        sign = self.chance.choice(("add", "sub", "less", "same"))
        return (sign, self.expression(deep - 1), self.expression(deep - 1))

    def row(self, deep):
        return ("row", tuple(self.statement(deep) for _ in range(self.chance.randrange(4))))

    def statement(self, deep):
        word = self.chance.choice(("say", "set", "if", "while") if deep else ("say", "set"))
        value = self.expression(5)
        if word == "say":
            return ("say", value)
        if word == "set":
            return ("set", self.chance.choice("abcdefgh"), value)
        if word == "if":
            return ("if", value, self.row(deep - 1), self.row(deep - 1))
        return ("while", value, self.row(deep - 1))


class LivelyMaker:
    """Makes programs that run a while: a to d have numbers, e to h texts, but for a few."""

    def __init__(self, seed):
        self.chance = random.Random(seed)

    def names(self):
        """Names to hand in; some are lacking."""
        given = {}
        for x in "abcdefgh":
            if self.chance.random() < 0.8:
                given[x] = self.chance.randrange(5) if x < "e" else self.letters()
        return given

    def letters(self):
        return "".join(self.chance.choice("abc") for _ in range(self.chance.randrange(4)))

    def expression(self, kind, deep):
        if self.chance.random() < 0.01:
            kind = "t" if kind == "n" else "n"
        if deep == 1 or self.chance.random() < 0.45:
            return self.leaf(kind)
        sign = self.chance.choice(("add", "sub", "less", "same"))
        if kind == "t":
            sign = self.chance.choice(("add", "sub"))
        inner = kind
        if sign in ("less", "same"):
            inner = self.chance.choice("nt")
        return (sign, self.expression(inner, deep - 1), self.expression(inner, deep - 1))

    def leaf(self, kind):
        if self.chance.random() < 0.5:
            return name(self.chance.choice("abcd" if kind == "n" else "efgh"))
        return number(self.chance.randrange(6)) if kind == "n" else text(self.letters())

    def row(self, deep, most):
        return ("row", tuple(self.statement(deep) for _ in range(self.chance.randrange(most))))

    def statement(self, deep):
        word = self.chance.choice(
            ("say", "set", "set", "if", "while", "while") if deep else ("say", "set", "set"))
        kind = self.chance.choice("nt")
        if word == "say":
            return ("say", self.expression(kind, 3))
        if word == "set":
            return ("set", self.chance.choice("abcd" if kind == "n" else "efgh"),
                    self.expression(kind, 4))
        if word == "if":
            return ("if", self.expression(kind, 3), self.row(deep - 1, 3), self.row(deep - 1, 3))
        return self.loop(deep)

    def loop(self, deep):
        """A while that mostly counts a name up."""
        if self.chance.random() < 0.2:
            return ("while", self.expression("n", 3), self.row(deep - 1, 4))
        x = self.chance.choice("abcd")
        up = ("set", x, ("add", name(x), number(1)))
        body = self.row(deep - 1, 4)[1]
        at = self.chance.randrange(len(body) + 1)
        return ("while", ("less", name(x), number(self.chance.randrange(3, 30))),
                ("row", body[:at] + (up,) + body[at:]))

    def program(self):
        return self.row(4, 6)


class RestlessMaker:
    """Makes programs whose whiles run long, while d to h change their kinds and their ways."""

    def __init__(self, seed):
        self.chance = random.Random(seed)

    def names(self):
        return {x: self.chance.choice((0, 1, 7, "", "ab")) for x in "defgh" if self.chance.random() < 0.8}

    def some(self):
        return self.chance.choice("defgh")

    def value(self):
        """Mostly one that makes something whatever its names have."""
        sign = self.chance.choice(("add", "sub", "less", "same"))
        one, two = name(self.some()), name(self.some())
        which = self.chance.random()
        if which < 0.02:
            return (sign, one, two)
        if which < 0.4:
            return (sign, one, one)
        if which < 0.6:
            return ("add", (sign, number(1), number(self.chance.randrange(3))), ("same", one, two))
        if which < 0.8:
            return one
        return number(self.chance.randrange(3)) if which < 0.9 else text(self.chance.choice(("", "x")))

    def parts(self, deep):
        return tuple(part for _ in range(self.chance.randrange(5)) for part in self.statements(deep))

    def statements(self, deep):
        word = self.chance.choice(("say", "set", "set", "swap", "if", "while"))
        if word == "while" and deep < 3:
            return self.loop(deep)
        if word == "if" and deep < 5:
            return [("if", self.value(), row(*self.parts(deep + 1)), row(*self.parts(deep + 1)))]
        if word == "swap":
            x, y, z = self.chance.sample("defgh", 3)
            return [("set", z, name(x)), ("set", x, name(y)), ("set", y, name(z))]
        return [("say", self.value()) if word == "say" else ("set", self.some(), self.value())]

    def loop(self, deep):
        x = "abc"[deep]
        up = ("set", x, ("add", name(x), number(1)))
        return [("set", x, number(0)),
                ("while", ("less", name(x), number(self.chance.randrange(2, 30))),
                 row(*self.parts(deep + 1), up, *self.parts(deep + 1)))]

    def program(self):
        return row(*self.loop(0), *self.parts(0), *self.loop(0))


class Over(Exception):
    """A run by the program itself has ended."""


class TreeRun:
    """Runs a program by its statements, not by rows; it only counts the rows' places."""

    def __init__(self, names, most):
        self.names = dict(names)
        self.left = most
        self.said = []
        self.last = ("done",)

    def run(self, program):
        try:
            self.do(program, 0)
        except Over:
            pass
        return self.said, self.last, self.names

    def end(self, last):
        self.last = last
        raise Over

    def value(self, expression, place):
        if expression[0] in ("num", "text"):
            return expression[1]
        if expression[0] == "name":
            return self.names.get(expression[1], 0)
        sign, first, second = expression
        one = self.value(first, place)
        two = self.value(second, place + rows_of(first))
        made = worked(sign, one, two)
        if made is None:
            self.end(("mixed", place + rows_of(first) + rows_of(second)))
        return made

    def do(self, statement, place):
        word = statement[0]
        if word == "row":
            for part in statement[1]:
                self.do(part, place)
                place += rows_of(part)
        elif word == "say":
            self.said.append(self.value(statement[1], place))
        elif word == "set":
            self.names[statement[1]] = self.value(statement[2], place)
        elif word == "if":
            _, test, first, second = statement
            if self.value(test, place):
                self.do(first, place + rows_of(test) + 1)
            else:
                self.do(second, place + rows_of(test) + 1 + rows_of(first) + 1)
        else:
            self.loop(statement[1], statement[2], place)

    def loop(self, test, body, place):
        while True:
            if self.left == 0:
                self.end(("dry",))
            self.left -= 1
            if not self.value(test, place + 1):
                return
            self.do(body, place + 1 + rows_of(test) + 1)


def rows_of(part):
    """How many plain rows an expression or a statement has."""
    if part[0] in ("num", "text", "name"):
        return 1
    if part[0] == "row":
        return sum(rows_of(inner) for inner in part[1])
    own = {"if": 2, "while": 3}.get(part[0], 1)
    return own + sum(rows_of(inner) for inner in part[1:] if isinstance(inner, tuple))


def fall_back(state, slots, way_out):
    place, names, half = way_out
    for x, slot in names:
        state.names[x] = slots[slot]
    state.stack[:] = [slots[slot] for slot in half]
    state.stand(place)


def run_made(rows, state):
    """Runs quick rows by point [9] alone; the place of the row by which they fell back, or -1."""
    slots, at, top = {}, 0, state.place
    while True:
        here = rows[at]
        word = here[0]
        at += 1
        if word == "turn":
            if state.left == 0:
                state.left, state.last = -1, ("dry",)
                state.stand(top)
                return -1
            state.left -= 1
        elif word in ("num", "text"):
            slots[here[1]] = here[2]
        elif word == "get":
            slots[here[1]] = state.names.get(here[2], 0)
        elif word in ("is", "so"):
            value = slots[here[1]]
            holds = isinstance(value, str) == (here[2] == "t") if word == "is" else bool(value) == here[2]
            if not holds:
                fall_back(state, slots, here[3])
                return at - 1
        elif word == "say":
            state.said.append(slots[here[1]])
        elif word == "put":
            state.names[here[1]] = slots[here[2]]
        elif word == "again":
            at = 0
        elif word == "leave":
            fall_back(state, slots, here[1])
            return at - 1
        else:
            one, two = slots[here[3]], slots[here[4]]
            kinds = {"t" if isinstance(value, str) else "n" for value in (one, two)}
            assert here[1] == "any" if word == "same" else kinds == {here[1]}, here
            slots[here[2]] = worked(word, one, two)


def guessed(code, chance):
    """Guesses for all places, by chance; some are lacking."""
    kinds, ways = {}, {}
    for place in range(len(code)):
        if chance.random() < 0.9:
            kinds[place] = chance.choice((("n", "n"), ("t", "t")) * 3 + (("n", "t"), ("t", "n")))
        if chance.random() < 0.9:
            ways[place] = chance.random() < 0.7
    return kinds, ways
