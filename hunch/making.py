"""Quick rows for a while, made along its plain rows on the guesses of notes."""

from hunch.errors import NoTop
from hunch.values import LIKE_SIGNS, kind_of

# The guess where notes tell nothing of a sign.
NO_KINDS = (None, None)


class Making:
    """Quick rows in the making, and what is known of their slots."""

    def __init__(self):
        self.rows = [("turn",)]
        # By slot: its kind, None where that is not known.
        self.known = []
        # By name: its slot; and the names that were set, not only read.
        self.slots = {}
        self.changed = {}
        self.half = []

    def new_slot(self, kind):
        """A slot that has no row yet."""
        self.known.append(kind)
        return len(self.known) - 1

    def exit_at(self, place):
        """An exit to a place, with the names and the half reckoned as they are."""
        return place, self.changed_names(), tuple(self.half)

    def changed_names(self):
        """Pairs of the names that were set and their slots, by names rising."""
        return tuple([(name, self.slots[name]) for name in sorted(self.changed)])

    def leave(self, place):
        """Ends the rows by falling back at a place."""
        self.rows.append(("leave", self.exit_at(place)))

    def close(self):
        """Ends the rows by going to the first one."""
        for name, slot in self.changed_names():
            self.rows.append(("put", name, slot))
        self.rows.append(("again",))

    def guard(self, slot, kind, way_out):
        """Adds a guard for a slot's kind, unless that is known."""
        if self.known[slot] is None:
            self.rows.append(("is", slot, kind, way_out))
            self.known[slot] = kind

    def add_sign(self, sign, sort):
        """Adds a sign's row, with a new slot in the stead of the last two."""
        kind = "t" if sort == "t" and sign != "less" else "n"
        slot = self.new_slot(kind)
        two = self.half.pop()
        one = self.half.pop()
        self.rows.append((sign, sort, slot, one, two))
        self.half.append(slot)

    def add_value(self, word, value):
        """Adds the row of a number or a text."""
        slot = self.new_slot(kind_of(value))
        self.rows.append((word, slot, value))
        self.half.append(slot)

    def add_name(self, name):
        """Makes the name's slot half reckoned, with a row if it has none yet."""
        if name not in self.slots:
            self.slots[name] = self.new_slot(None)
            self.rows.append(("get", self.slots[name], name))
        self.half.append(self.slots[name])

    def set_name(self, name):
        """The name has the last slot from here on."""
        self.slots[name] = self.half.pop()
        self.changed[name] = True


def quick_rows(code, top, notes, most):
    """The quick rows for the while whose top is at a place."""
    if not 0 <= top < len(code) or code[top] != ("top",):
        raise NoTop(f"there is no top at {top}")
    making = Making()
    place = top + 1
    while place is not None:
        if place == top:
            making.close()
            place = None
        elif code[place][0] in ("top", "end") or len(making.rows) >= most:
            making.leave(place)
            place = None
        else:
            place = followed(making, code[place], place, notes)
    return tuple(making.rows)


def followed(making, row, place, notes):
    """Follows a plain row: the place of the next, None where it was left."""
    word = row[0]
    if word == "go":
        return row[1]
    if word == "unless":
        return followed_unless(making, row[1], place, notes.ways.get(place))
    if word in LIKE_SIGNS:
        return followed_sign(making, word, place, notes.kinds.get(place, NO_KINDS))
    follow_step(making, row)
    return place + 1


def followed_unless(making, target, place, guess):
    """Follows an unless by the guessed way."""
    if guess is None:
        making.leave(place)
        return None
    slot = making.half.pop()
    onward, otherwise = (place + 1, target) if guess else (target, place + 1)
    making.rows.append(("so", slot, 1 if guess else 0, making.exit_at(otherwise)))
    return onward


def followed_sign(making, sign, place, guess):
    """Follows a sign that needs two values of one kind, by the guessed kinds."""
    one, two = making.half[-2], making.half[-1]
    first = making.known[one] or guess[0]
    second = making.known[two] or guess[1]
    if first is None or first != second:
        making.leave(place)
        return None
    way_out = making.exit_at(place)
    making.guard(one, first, way_out)
    making.guard(two, second, way_out)
    making.add_sign(sign, first)
    return place + 1


def follow_step(making, row):
    """Follows a row behind which the next one always follows."""
    word = row[0]
    if word == "name":
        making.add_name(row[1])
    elif word == "set":
        making.set_name(row[1])
    elif word == "say":
        making.rows.append(("say", making.half.pop()))
    elif word == "same":
        making.add_sign("same", "any")
    else:
        making.add_value(word, row[1])
