"""Points [7], [9] and [10]: what each quick row does, and that quick rows come to where plain rows do."""

import copy
import random
import unittest

from helper import LivelyMaker, RestlessMaker, guessed, name, number, row, run_made, seen_of, told_of
from hunch.codes import coded
from hunch.making import quick_rows
from hunch.notes import Notes
from hunch.plain import State, do_row
from hunch.quick import run_quick

A, B, C = name("a"), name("b"), name("c")
NN = ("n", "n")
NAMES = {"a": 7, "b": "x", "c": ""}


def at_top(names, left, top=4):
    state = State(names, left)
    state.said.append("w")
    state.stand(top)
    return state


class EachRow(unittest.TestCase):
    """Rows written by hand, run from a state at place 4 with "w" told."""

    def run_from(self, *rows, left=5, names=None):
        state = at_top(NAMES if names is None else names, left)
        rows = (("turn",),) + rows
        by = run_quick(rows, state)
        self.assertIs(type(by), int)
        again = at_top(NAMES if names is None else names, left)
        self.assertEqual((run_quick(rows, again), told_of(again)), (by, told_of(state)))
        return by, state

    def slots(self, *rows, many, names=None):
        """What the slots have behind these rows."""
        by, state = self.run_from(*rows, ("leave", (9, (), tuple(range(many)))), names=names)
        self.assertEqual(by, 1 + len(rows))
        self.assertEqual((state.place, state.left, state.said, state.last), (9, 4, ["w"], None))
        self.assertEqual(state.names, NAMES if names is None else names)
        return state.stack

    def test_turn_counts_a_turn(self):
        for left in (1, 2, 5000):
            by, state = self.run_from(("leave", (5, (), ())), left=left)
            self.assertEqual(by, 1)
            self.assertEqual(told_of(state), (5, NAMES, [], left - 1, ["w"], None))

    def test_turn_with_none_left(self):
        by, state = self.run_from(("num", 0, 1), ("say", 0), ("put", "a", 0), ("again",), left=0)
        self.assertEqual(by, -1)
        self.assertEqual(told_of(state), (4, NAMES, [], -1, ["w"], ("dry",)))

    def test_turn_with_fewer_than_none_left(self):
        by, state = self.run_from(("again",), left=-3)
        self.assertEqual(by, -1)
        self.assertEqual(told_of(state), (4, NAMES, [], -1, ["w"], ("dry",)))

    def test_num(self):
        self.assertEqual(self.slots(("num", 0, 0), ("num", 1, 9999), many=2), [0, 9999])

    def test_text(self):
        self.assertEqual(self.slots(("text", 0, ""), ("text", 1, "abcdefghijkl"), many=2),
                         ["", "abcdefghijkl"])

    def test_get(self):
        self.assertEqual(self.slots(("get", 0, "a"), ("get", 1, "b"), ("get", 2, "c"), many=3),
                         [7, "x", ""])

    def test_get_of_a_name_without_a_value(self):
        self.assertEqual(self.slots(("get", 0, "d"), ("get", 1, "h"), many=2), [0, 0])
        self.assertEqual(self.slots(("get", 0, "a"), many=1, names={}), [0])

    def test_signs_of_numbers(self):
        for sign, made in (("add", 10), ("sub", 10003), ("less", 1)):
            self.assertEqual(
                self.slots(("num", 0, 3), ("num", 1, 7), (sign, "n", 2, 0, 1), many=3), [3, 7, made])
        for sign, made in (("add", 10), ("sub", 4), ("less", 0)):
            self.assertEqual(
                self.slots(("num", 0, 3), ("num", 1, 7), (sign, "n", 2, 1, 0), many=3), [3, 7, made])

    def test_the_rest_by_10007(self):
        self.assertEqual(
            self.slots(("num", 0, 9999), ("add", "n", 1, 0, 0), ("add", "n", 2, 1, 0), many=3),
            [9999, 9991, 9983])

    def test_signs_of_texts(self):
        for sign, made in (("add", "abcbd"), ("sub", "ac"), ("less", 1)):
            self.assertEqual(
                self.slots(("text", 0, "abc"), ("text", 1, "bd"), (sign, "t", 2, 0, 1), many=3),
                ["abc", "bd", made])
        self.assertEqual(
            self.slots(("text", 0, "abcdefgh"), ("add", "t", 1, 0, 0), many=2),
            ["abcdefgh", "abcdefghabcd"])

    def test_same(self):
        for one, two, made in ((("num", 0, 3), ("num", 1, 3), 1), (("num", 0, 3), ("num", 1, 4), 0),
                               (("text", 0, "x"), ("text", 1, "x"), 1), (("num", 0, 0), ("text", 1, ""), 0)):
            got = self.slots(one, two, ("same", "any", 2, 0, 1), many=3)
            self.assertEqual(got[2], made)
            self.assertIs(type(got[2]), int)

    def test_a_slot_has_what_the_name_had(self):
        by, state = self.run_from(("get", 0, "a"), ("num", 1, 1), ("put", "a", 1), ("get", 2, "a"),
                                  ("leave", (9, (), (0, 1, 2))))
        self.assertEqual((by, state.stack, state.names), (5, [7, 1, 1], {**NAMES, "a": 1}))

    def test_is(self):
        for word, value, kind in (("num", 0, "n"), ("num", 5, "n"), ("text", "", "t"), ("text", "n", "t")):
            other = "t" if kind == "n" else "n"
            rows = ((word, 0, value), ("is", 0, kind, (8, (), ())), ("leave", (9, (), (0,))))
            by, state = self.run_from(*rows)
            self.assertEqual((by, told_of(state)), (3, (9, NAMES, [value], 4, ["w"], None)))
            rows = ((word, 0, value), ("is", 0, other, (8, (), (0, 0))), ("leave", (9, (), (0,))))
            by, state = self.run_from(*rows)
            self.assertEqual((by, told_of(state)), (2, (8, NAMES, [value, value], 4, ["w"], None)))

    def test_so(self):
        for word, value, yes in (("num", 1, 1), ("num", 9999, 1), ("text", "a", 1),
                                 ("num", 0, 0), ("text", "", 0)):
            rows = ((word, 0, value), ("so", 0, yes, (8, (), ())), ("leave", (9, (), (0,))))
            by, state = self.run_from(*rows)
            self.assertEqual((by, told_of(state)), (3, (9, NAMES, [value], 4, ["w"], None)))
            rows = ((word, 0, value), ("so", 0, 1 - yes, (8, (), (0,))), ("leave", (9, (), ())))
            by, state = self.run_from(*rows)
            self.assertEqual((by, told_of(state)), (2, (8, NAMES, [value], 4, ["w"], None)))

    def test_say(self):
        by, state = self.run_from(("num", 0, 3), ("say", 0), ("text", 1, ""), ("say", 1), ("say", 0),
                                  ("leave", (9, (), ())))
        self.assertEqual((by, told_of(state)), (6, (9, NAMES, [], 4, ["w", 3, "", 3], None)))

    def test_put(self):
        by, state = self.run_from(("num", 0, 3), ("text", 1, "q"), ("put", "a", 1), ("put", "h", 0),
                                  ("leave", (9, (), ())))
        self.assertEqual((by, told_of(state)),
                         (5, (9, {"a": "q", "b": "x", "c": "", "h": 3}, [], 4, ["w"], None)))

    def test_again(self):
        rows = (("get", 0, "a"), ("so", 0, 1, (9, (("b", 0),), (0,))), ("say", 0), ("num", 1, 1),
                ("sub", "n", 2, 0, 1), ("put", "a", 2), ("again",))
        by, state = self.run_from(*rows, names={"a": 3}, left=4)
        self.assertEqual((by, told_of(state)),
                         (2, (9, {"a": 0, "b": 0}, [0], 0, ["w", 3, 2, 1], None)))
        by, state = self.run_from(*rows, names={"a": 3}, left=3)
        self.assertEqual((by, told_of(state)), (-1, (4, {"a": 0}, [], -1, ["w", 3, 2, 1], ("dry",))))
        by, state = self.run_from(*rows, names={"a": 3}, left=1)
        self.assertEqual((by, told_of(state)), (-1, (4, {"a": 2}, [], -1, ["w", 3], ("dry",))))

    def test_leave(self):
        by, state = self.run_from(("leave", (0, (), ())))
        self.assertEqual((by, told_of(state)), (1, (0, NAMES, [], 4, ["w"], None)))


class FallingBack(unittest.TestCase):
    def test_names_and_what_is_half_reckoned(self):
        rows = (("turn",), ("num", 0, 5), ("text", 1, "y"), ("get", 2, "a"),
                ("leave", (11, (("a", 1), ("b", 2), ("g", 0)), (2, 0, 1, 0))))
        state = at_top(NAMES, 3)
        self.assertEqual(run_quick(rows, state), 4)
        self.assertEqual(told_of(state),
                         (11, {"a": "y", "b": 7, "c": "", "g": 5}, [7, 5, "y", 5], 2, ["w"], None))

    def test_only_the_names_of_the_exit(self):
        rows = (("turn",), ("num", 0, 5), ("num", 1, 6), ("is", 0, "t", (8, (("a", 0),), ())),
                ("leave", (9, (("a", 1), ("b", 1)), ())))
        state = at_top(NAMES, 3)
        self.assertEqual(run_quick(rows, state), 3)
        self.assertEqual(told_of(state), (8, {**NAMES, "a": 5}, [], 2, ["w"], None))

    def test_names_that_change_places(self):
        rows = (("turn",), ("get", 0, "a"), ("get", 1, "b"), ("leave", (9, (("a", 1), ("b", 0)), ())))
        state = at_top(NAMES, 3)
        self.assertEqual(run_quick(rows, state), 3)
        self.assertEqual(state.names, {"a": "x", "b": 7, "c": ""})

    def test_names_that_were_put_in_an_earlier_turn_stay(self):
        rows = (("turn",), ("get", 0, "a"), ("is", 0, "n", (8, (), ())), ("text", 1, "z"),
                ("put", "a", 1), ("put", "d", 0), ("again",))
        state = at_top(NAMES, 3)
        self.assertEqual(run_quick(rows, state), 2)
        self.assertEqual(told_of(state), (8, {**NAMES, "a": "z", "d": 7}, [], 1, ["w"], None))

    def test_what_the_state_holds_is_its_own(self):
        rows = (("turn",), ("num", 0, 5), ("leave", (9, (("a", 0),), (0,))))
        one, two = at_top(NAMES, 3), at_top(NAMES, 3)
        run_quick(rows, one)
        one.stack.append(1)
        one.said.append(2)
        one.names["b"] = 3
        run_quick(rows, two)
        self.assertEqual(told_of(two), (9, {"a": 5, "b": "x", "c": ""}, [5], 2, ["w"], None))


class MadeRows(unittest.TestCase):
    """Rows that were made, run from their top, and plain rows from where they fell back."""

    def run_made_rows(self, parts, names, left, kinds=None, ways=None, most=200, top=0):
        self.code = coded(row(*parts))
        rows = quick_rows(self.code, top, Notes(kinds or {}, ways or {}), most)
        state = State(names, left)
        state.stand(top)
        by = run_quick(rows, state)
        return (rows[by][0] if by >= 0 else by), state

    def to_the_end(self, state):
        while state.last is None:
            do_row(self.code, state)
        return state.said, state.last, state.names

    # 0 top, 1 num 1, 2 unless 12, 3 num 5, 4 num 6, 5 a, 6 b, 7 less, 8 sub, 9 add, 10 say, 11 go, 12 end
    SAYS = ("while", number(1), row(("say", ("add", number(5), ("sub", number(6), ("less", A, B))))))

    def test_by_an_is_in_the_middle_of_an_expression(self):
        by, state = self.run_made_rows([self.SAYS], {"a": "x", "b": "y"}, 3, kinds={7: NN}, ways={2: True})
        self.assertEqual(by, "is")
        self.assertEqual(told_of(state), (7, {"a": "x", "b": "y"}, [5, 6, "x", "y"], 2, [], None))
        self.assertEqual(self.to_the_end(state), ([10, 10, 10], ("dry",), {"a": "x", "b": "y"}))

    def test_by_the_second_is_and_then_mixed(self):
        by, state = self.run_made_rows([self.SAYS], {"a": 2, "b": "y"}, 3, kinds={7: NN}, ways={2: True})
        self.assertEqual(by, "is")
        self.assertEqual(told_of(state), (7, {"a": 2, "b": "y"}, [5, 6, 2, "y"], 2, [], None))
        self.assertEqual(self.to_the_end(state), ([], ("mixed", 7), {"a": 2, "b": "y"}))
        self.assertEqual(state.stack, [5, 6, 2, "y"])

    def test_by_a_leave_in_the_middle_of_an_expression(self):
        by, state = self.run_made_rows([self.SAYS], {"a": 2, "b": 3}, 1, ways={2: True})
        self.assertEqual(by, "leave")
        self.assertEqual(told_of(state), (7, {"a": 2, "b": 3}, [5, 6, 2, 3], 0, [], None))
        self.assertEqual(self.to_the_end(state), ([10], ("dry",), {"a": 2, "b": 3}))

    def test_by_a_leave_for_want_of_room(self):
        for most, place, half in ((1, 1, []), (2, 2, [1]), (3, 3, []), (4, 4, [5]), (5, 5, [5, 6])):
            by, state = self.run_made_rows([self.SAYS], {"a": 2, "b": 3}, 1, ways={2: True}, most=most)
            self.assertEqual(by, "leave")
            self.assertEqual(told_of(state), (place, {"a": 2, "b": 3}, half, 0, [], None))

    # 0 top, 1 a, 2 unless 10, 3 a, 4 say, 5 b, 6 set a, 7 num 0, 8 set b, 9 go 0, 10 end
    FEW = ("while", A, row(("say", A), ("set", "a", B), ("set", "b", number(0))))

    def test_by_a_so_and_then_done(self):
        by, state = self.run_made_rows([self.FEW], {"a": 1, "b": "q"}, 9, ways={2: True})
        self.assertEqual(by, "so")
        self.assertEqual(told_of(state), (10, {"a": 0, "b": 0}, [], 6, [1, "q"], None))
        self.assertEqual(self.to_the_end(state), ([1, "q"], ("done",), {"a": 0, "b": 0}))

    def test_by_a_so_that_guessed_no(self):
        by, state = self.run_made_rows([self.FEW], {"a": 1, "b": "q"}, 9, ways={2: False})
        self.assertEqual(by, "so")
        self.assertEqual(told_of(state), (3, {"a": 1, "b": "q"}, [], 8, [], None))
        by, state = self.run_made_rows([self.FEW], {"b": "q"}, 9, ways={2: False})
        self.assertEqual(by, "leave")
        self.assertEqual(told_of(state), (10, {"b": "q"}, [], 8, [], None))

    def test_dry(self):
        for left, names, said in ((2, {"a": 0, "b": 0}, [1, "q"]), (1, {"a": "q", "b": 0}, [1]),
                                  (0, {"a": 1, "b": "q"}, [])):
            by, state = self.run_made_rows([self.FEW], {"a": 1, "b": "q"}, left, ways={2: True})
            self.assertEqual(by, -1)
            self.assertEqual(told_of(state), (0, names, [], -1, said, ("dry",)))

    def test_dry_at_a_top_that_is_not_the_first_row(self):
        # 0 num, 1 say, 2 top, 3 num, 4 unless, 5 c, 6 set d, 7 go 2
        by, state = self.run_made_rows([("say", number(1)), ("while", number(1), row(("set", "d", C)))],
                                       {"c": "z"}, 3, ways={4: True}, top=2)
        self.assertEqual(by, -1)
        self.assertEqual(told_of(state), (2, {"c": "z", "d": "z"}, [], -1, [], ("dry",)))

    def test_thousands_of_turns(self):
        # 0 top, 1 num 1, 2 unless, 3 a, 4 num 1, 5 add, 6 set a, 7 go 0
        loop = ("while", number(1), row(("set", "a", ("add", A, number(1)))))
        by, state = self.run_made_rows([loop], {}, 5000, kinds={5: NN}, ways={2: True})
        self.assertEqual(by, -1)
        self.assertEqual(told_of(state), (0, {"a": 5000}, [], -1, [], ("dry",)))


class ManyPrograms(unittest.TestCase):
    def comes_to_the_same(self, code, rows, state):
        """Plain rows come to where quick rows do; gives the word of the row by which these fell back."""
        quick, plain, slow = [copy.deepcopy(state) for _ in range(3)]
        by = run_quick(rows, quick)
        self.assertEqual(by, run_made(rows, slow))
        wanted = told_of(quick)
        self.assertEqual(wanted, told_of(slow))
        do_row(code, plain)
        while seen_of(plain) != wanted:
            self.assertIsNone(plain.last, (rows, wanted))
            do_row(code, plain)
        self.assertEqual(by == -1, quick.last is not None)
        while quick.last is None:
            do_row(code, quick)
        while plain.last is None:
            do_row(code, plain)
        self.assertEqual(told_of(quick), told_of(plain))
        return rows[by][0] if by >= 0 else "over"

    def test_by_what_was_noted(self):
        fell = {"is": 0, "so": 0, "leave": 0, "over": 0}
        for seed in range(250):
            maker = LivelyMaker(seed)
            code = coded(maker.program())
            notes, state = Notes({}, {}), State(maker.names(), 60)
            while state.last is None:
                notes.see(code, state)
                if code[state.place] == ("top",) and notes.count(state.place) in (2, 9):
                    rows = quick_rows(code, state.place, notes, maker.chance.choice((1, 6, 15, 200)))
                    fell[self.comes_to_the_same(code, rows, state)] += 1
                do_row(code, state)
        for word, least in (("so", 50), ("leave", 50), ("over", 20)):
            self.assertGreater(fell[word], least, fell)

    def test_by_what_was_noted_where_kinds_change(self):
        fell = {"is": 0, "so": 0, "leave": 0, "over": 0}
        for seed in range(60):
            maker = RestlessMaker(seed)
            code = coded(maker.program())
            notes, state = Notes({}, {}), State(maker.names(), 60)
            while state.last is None:
                notes.see(code, state)
                if code[state.place] == ("top",) and notes.count(state.place) in (2, 5):
                    rows = quick_rows(code, state.place, notes, 200)
                    fell[self.comes_to_the_same(code, rows, state)] += 1
                do_row(code, state)
        self.assertGreater(min(fell["is"], fell["so"], fell["leave"]), 20, fell)

    def test_by_any_guesses_from_any_names(self):
        fell = {"is": 0, "so": 0, "leave": 0, "over": 0}
        for seed in range(400):
            maker = LivelyMaker(seed)
            code = coded(maker.program())
            chance = random.Random(seed)
            for top in [place for place, here in enumerate(code) if here == ("top",)]:
                rows = quick_rows(code, top, Notes(*guessed(code, chance)), chance.choice((4, 200)))
                names = {x: chance.choice((0, 1, 9, "", "ab")) for x in "abcdefgh" if chance.random() < 0.8}
                state = at_top(names, chance.choice((0, 1, 2, 30)), top)
                fell[self.comes_to_the_same(code, rows, state)] += 1
        self.assertGreater(min(fell.values()), 50, fell)


if __name__ == "__main__":
    unittest.main()
