"""What came before, by places of plain rows."""

from hunch.values import LIKE_SIGNS, is_so, kind_of


class Notes:
    """The kinds that signs had, the ways of unlesses, and counts of tops."""

    def __init__(self, kinds, ways):
        self.kinds = dict(kinds)
        self.ways = dict(ways)
        self.tops = {}

    def see(self, code, state):
        """Notes the row that is about to be done."""
        place = state.place
        word = code[place][0]
        if word in LIKE_SIGNS:
            self.kinds[place] = (kind_of(state.stack[-2]), kind_of(state.stack[-1]))
        elif word == "unless":
            self.ways[place] = is_so(state.stack[-1])
        elif word == "top":
            self.tops[place] = self.count(place) + 1

    def count(self, top):
        """How often a top was come to; 0 of any other place."""
        return self.tops.get(top, 0)

    def forget(self, top):
        """Counts a top from 0."""
        self.tops[top] = 0
