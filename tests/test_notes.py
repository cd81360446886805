"""Point [8], and what point [12] says of guesses: notes by places of rows."""

import unittest

from helper import LivelyMaker, name, number, row, text, told_of
from hunch.codes import coded
from hunch.notes import Notes
from hunch.plain import State, do_row

A = name("a")


def noted_run(code, notes, names, most):
    """A whole run by plain rows, each noted ahead; the state behind it."""
    state = State(names, most)
    while state.last is None:
        notes.see(code, state)
        do_row(code, state)
    return state


class Seeing(unittest.TestCase):
    def seen(self, a_row, *half, notes=None):
        """Notes behind a look at a row at place 2."""
        notes = Notes({}, {}) if notes is None else notes
        state = State({"a": 1}, 3)
        state.stack.extend(half)
        state.stand(2)
        ahead = told_of(state)
        self.assertIsNone(notes.see((("num", 1), ("num", 2), a_row, ("end",)), state))
        self.assertEqual(told_of(state), ahead)
        return notes

    def test_kinds_at_add_sub_and_less(self):
        for sign in ("add", "sub", "less"):
            for one, two, kinds in ((1, 2, ("n", "n")), ("x", "", ("t", "t")),
                                    (0, "", ("n", "t")), ("y", 5, ("t", "n"))):
                notes = self.seen((sign,), one, two)
                self.assertEqual((notes.kinds, notes.ways), ({2: kinds}, {}))
                self.assertIs(type(notes.kinds[2]), tuple)
                self.assertEqual(notes.count(2), 0)

    def test_kinds_of_the_last_two_only(self):
        self.assertEqual(self.seen(("add",), "x", "y", 1, "z").kinds, {2: ("n", "t")})

    def test_nothing_at_a_same(self):
        notes = self.seen(("same",), 1, "x")
        self.assertEqual((notes.kinds, notes.ways, notes.count(2)), ({}, {}, 0))

    def test_ways_at_an_unless(self):
        for value, way in ((1, True), (10006, True), ("x", True), (0, False), ("", False)):
            notes = self.seen(("unless", 3), value)
            self.assertEqual((notes.kinds, notes.ways), ({}, {2: way}))
            self.assertIs(notes.ways[2], way)
            self.assertEqual(notes.count(2), 0)

    def test_the_way_of_the_last_value(self):
        self.assertIs(self.seen(("unless", 3), 0, 1).ways[2], True)
        self.assertIs(self.seen(("unless", 3), 1, 0).ways[2], False)

    def test_a_top_is_counted(self):
        notes = self.seen(("top",))
        self.assertEqual((notes.kinds, notes.ways, notes.count(2)), ({}, {}, 1))
        self.seen(("top",), notes=notes)
        self.assertEqual(notes.count(2), 2)

    def test_nothing_at_other_rows(self):
        for a_row in (("num", 1), ("text", "x"), ("name", "a"), ("say",), ("set", "a"),
                      ("go", 1), ("end",)):
            notes = self.seen(a_row, 1, 2)
            self.assertEqual((notes.kinds, notes.ways), ({}, {}))
            self.assertEqual([notes.count(place) for place in range(4)], [0, 0, 0, 0])

    def test_what_was_noted_last_holds(self):
        notes = self.seen(("add",), 1, 2)
        self.seen(("add",), "x", 2, notes=notes)
        self.assertEqual(notes.kinds, {2: ("t", "n")})
        self.seen(("unless", 3), 1, notes=notes)
        self.seen(("unless", 3), 0, notes=notes)
        self.assertEqual(notes.ways, {2: False})
        self.seen(("unless", 3), "x", notes=notes)
        self.assertEqual(notes.ways, {2: True})

    def test_a_top_that_will_end_it_dry_is_come_to_as_well(self):
        notes = Notes({}, {})
        notes.see((("top",), ("end",)), State({}, 0))
        self.assertEqual(notes.count(0), 1)


class Counting(unittest.TestCase):
    # Tops at 2 and 7.
    CODE = coded(row(
        ("set", "a", number(2)),
        ("while", A, row(
            ("set", "b", A),
            ("while", name("b"), row(("set", "b", ("sub", name("b"), number(1))))),
            ("set", "a", ("sub", A, number(1)))))))

    def test_each_top_on_its_own(self):
        notes = Notes({}, {})
        noted_run(self.CODE, notes, {}, 100)
        self.assertEqual({place: notes.count(place) for place in range(-2, len(self.CODE) + 2)
                          if notes.count(place)}, {2: 3, 7: 5})

    def test_of_any_other_place(self):
        notes = Notes({}, {})
        for place in (-1, 0, 2, 7, 1000):
            self.assertEqual(notes.count(place), 0)

    def test_forget(self):
        notes = Notes({}, {})
        noted_run(self.CODE, notes, {}, 100)
        kinds, ways = dict(notes.kinds), dict(notes.ways)
        self.assertIsNone(notes.forget(2))
        self.assertEqual((notes.count(2), notes.count(7)), (0, 5))
        self.assertEqual((notes.kinds, notes.ways), (kinds, ways))
        noted_run(self.CODE, notes, {}, 100)
        self.assertEqual((notes.count(2), notes.count(7)), (3, 10))

    def test_forget_what_was_never_come_to(self):
        notes = Notes({}, {})
        for place in (2, 3, -1, 1000):
            notes.forget(place)
            self.assertEqual(notes.count(place), 0)
        noted_run(self.CODE, notes, {}, 1)
        self.assertEqual(notes.count(2), 1)


class Guesses(unittest.TestCase):
    # add at 2, less at 6, same at 8, unless at 9 and 15, top at 13.
    CODE = coded(row(
        ("say", ("add", A, number(1))),
        ("if", ("same", ("less", text("x"), text("y")), number(1)), row(("say", A)), row()),
        ("while", name("b"), row())))

    def test_they_hold_where_nothing_was_noted(self):
        notes = Notes({2: ("t", "t"), 6: ("n", "t")}, {9: False})
        self.assertEqual((notes.kinds, notes.ways), ({2: ("t", "t"), 6: ("n", "t")}, {9: False}))
        state = State({}, 0)
        for _ in range(3):
            notes.see(self.CODE, state)
            do_row(self.CODE, state)
        self.assertEqual((notes.kinds, notes.ways), ({2: ("n", "n"), 6: ("n", "t")}, {9: False}))

    def test_what_is_noted_takes_their_stead(self):
        notes = Notes({2: ("t", "t"), 6: ("n", "n")}, {9: False, 15: True})
        noted_run(self.CODE, notes, {}, 1)
        self.assertEqual(notes.kinds, {2: ("n", "n"), 6: ("t", "t")})
        self.assertEqual(notes.ways, {9: True, 15: False})

    def test_those_at_other_rows_and_elsewhere_do_no_harm(self):
        notes = Notes({8: ("n", "t"), 9: ("t", "n"), 99: ("n", "n"), 13: ("t", "t")},
                      {-1: True, 2: False, 8: True, 13: True})
        noted_run(self.CODE, notes, {}, 1)
        self.assertEqual((notes.kinds[2], notes.kinds[6]), (("n", "n"), ("t", "t")))
        self.assertEqual((notes.ways[9], notes.ways[15]), (True, False))
        self.assertEqual([notes.count(place) for place in (13, 8, 9, 99, -1)], [1, 0, 0, 0, 0])

    def test_the_dicts_handed_in_stay_as_they_were(self):
        kinds, ways = {2: ("t", "t")}, {9: False}
        notes = Notes(kinds, ways)
        noted_run(self.CODE, notes, {}, 1)
        self.assertEqual((kinds, ways), ({2: ("t", "t")}, {9: False}))

    def test_the_dicts_handed_in_are_not_kept(self):
        kinds, ways = {2: ("t", "t")}, {9: False}
        notes = Notes(kinds, ways)
        kinds[2] = ("n", "n")
        kinds[6] = ("n", "n")
        ways[9] = True
        ways[15] = True
        self.assertEqual((notes.kinds, notes.ways), ({2: ("t", "t")}, {9: False}))
        notes.kinds[6] = ("t", "n")
        notes.ways[15] = False
        self.assertEqual((kinds, ways), ({2: ("n", "n"), 6: ("n", "n")}, {9: True, 15: True}))

    def test_notes_are_apart(self):
        one, two = Notes({}, {}), Notes({}, {})
        noted_run(self.CODE, one, {}, 1)
        self.assertEqual((two.kinds, two.ways, two.count(13)), ({}, {}, 0))
        self.assertEqual(one.count(13), 1)


class ManyPrograms(unittest.TestCase):
    def test_the_last_of_all_that_came(self):
        """Notes of whole runs, against all that the states ahead of the rows tell."""
        for seed in range(100):
            maker = LivelyMaker(seed)
            code, names = coded(maker.program()), maker.names()
            notes, state = Notes({}, {}), State(names, 60)
            kinds, ways, tops = {}, {}, {}
            while state.last is None:
                word, place = code[state.place][0], state.place
                if word in ("add", "sub", "less"):
                    kinds[place] = tuple("t" if isinstance(value, str) else "n"
                                         for value in state.stack[-2:])
                if word == "unless":
                    ways[place] = bool(state.stack[-1])
                if word == "top":
                    tops[place] = tops.get(place, 0) + 1
                notes.see(code, state)
                do_row(code, state)
            self.assertEqual((notes.kinds, notes.ways), (kinds, ways))
            self.assertEqual({place: notes.count(place) for place in range(len(code))},
                             {place: tops.get(place, 0) for place in range(len(code))})


if __name__ == "__main__":
    unittest.main()
