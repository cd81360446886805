"""Points [5] and [7]: what each plain row does, and how a program ends."""

import unittest

from helper import LivelyMaker, Maker, RestlessMaker, TreeRun, name, number, row, text, told_of
from hunch.codes import coded
from hunch.plain import State, do_row, walked

A = name("a")
SAY_A = ("say", A)
COUNT_UP = ("set", "a", ("add", A, number(1)))
COUNT_DOWN = ("set", "a", ("sub", A, number(1)))


def ran(program, names, most):
    return walked(coded(program), names, most)


class AState(unittest.TestCase):
    def test_a_new_one(self):
        state = State({"a": 3, "b": "x"}, 7)
        self.assertEqual(told_of(state), (0, {"a": 3, "b": "x"}, [], 7, [], None))
        self.assertIsNone(state.last)
        for value, kind in ((state.names, dict), (state.stack, list), (state.said, list)):
            self.assertIs(type(value), kind)

    def test_stand(self):
        state = State({}, 0)
        self.assertIsNone(state.stand(5))
        self.assertEqual(told_of(state), (5, {}, [], 0, [], None))
        state.stand(2)
        self.assertEqual(state.place, 2)
        state.stand(0)
        self.assertEqual(state.place, 0)

    def test_the_names_handed_in_are_not_kept(self):
        names = {"a": 3}
        state = State(names, 1)
        names["a"] = 4
        names["b"] = 5
        self.assertEqual(state.names, {"a": 3})
        state.names["c"] = 6
        self.assertEqual(names, {"a": 4, "b": 5})

    def test_states_are_apart(self):
        one, two = State({}, 1), State({}, 1)
        one.stack.append(1)
        one.said.append(2)
        one.names["a"] = 3
        one.stand(4)
        self.assertEqual(told_of(two), (0, {}, [], 1, [], None))


class OneRow(unittest.TestCase):
    """A row is done at place 3, with 10 and "q" half reckoned and "w" told."""

    def after(self, a_row, *more, left=5, names=None, wanted):
        state = State({"a": 7, "b": "x"} if names is None else names, left)
        state.stack.append(10)
        state.stack.append("q")
        state.stack.extend(more)
        state.said.append("w")
        state.stand(3)
        code = (("num", 0), ("say",), ("go", 3), a_row, ("num", 1), ("say",), ("end",))
        self.assertIsNone(do_row(code, state))
        place, stack, turns, said, last, behind = wanted
        self.assertEqual(told_of(state), (place, behind, [10, "q", *stack], turns, ["w", *said], last))

    def test_num(self):
        for n in (0, 5, 9999):
            self.after(("num", n), wanted=(4, [n], 5, [], None, {"a": 7, "b": "x"}))

    def test_text(self):
        for t in ("", "add", "abcdefghijkl"):
            self.after(("text", t), wanted=(4, [t], 5, [], None, {"a": 7, "b": "x"}))

    def test_name(self):
        self.after(("name", "a"), wanted=(4, [7], 5, [], None, {"a": 7, "b": "x"}))
        self.after(("name", "b"), wanted=(4, ["x"], 5, [], None, {"a": 7, "b": "x"}))

    def test_a_name_without_a_value_has_0_and_gets_none(self):
        self.after(("name", "c"), wanted=(4, [0], 5, [], None, {"a": 7, "b": "x"}))
        self.after(("name", "h"), names={}, wanted=(4, [0], 5, [], None, {}))

    def test_a_name_that_has_the_empty_text(self):
        self.after(("name", "c"), names={"c": ""}, wanted=(4, [""], 5, [], None, {"c": ""}))

    def test_signs_of_numbers(self):
        for sign, made in (("add", 11), ("sub", 5), ("less", 0), ("same", 0)):
            self.after((sign,), 8, 3, wanted=(4, [made], 5, [], None, {"a": 7, "b": "x"}))

    def test_the_first_one_is_the_one_that_was_put_first(self):
        self.after(("sub",), 3, 8, wanted=(4, [10002], 5, [], None, {"a": 7, "b": "x"}))
        self.after(("less",), 3, 8, wanted=(4, [1], 5, [], None, {"a": 7, "b": "x"}))
        self.after(("sub",), "abc", "bd", wanted=(4, ["ac"], 5, [], None, {"a": 7, "b": "x"}))

    def test_signs_of_texts(self):
        for sign, made in (("add", "abb"), ("sub", "a"), ("less", 1), ("same", 0)):
            self.after((sign,), "ab", "b", wanted=(4, [made], 5, [], None, {"a": 7, "b": "x"}))

    def test_a_sign_that_makes_0_or_the_empty_text_goes_on(self):
        self.after(("sub",), 3, 3, wanted=(4, [0], 5, [], None, {"a": 7, "b": "x"}))
        self.after(("add",), "", "", wanted=(4, [""], 5, [], None, {"a": 7, "b": "x"}))

    def test_same_of_unlike_kinds(self):
        self.after(("same",), 0, "", wanted=(4, [0], 5, [], None, {"a": 7, "b": "x"}))

    def test_signs_of_unlike_kinds_end_it_and_change_nothing_else(self):
        for sign in ("add", "sub", "less"):
            for pair in ((1, "x"), ("x", 1), (0, ""), ("", 0)):
                self.after((sign,), *pair,
                           wanted=(3, list(pair), 5, [], ("mixed", 3), {"a": 7, "b": "x"}))

    def test_say(self):
        for value in (0, 12, "", "no"):
            self.after(("say",), value, wanted=(4, [], 5, [value], None, {"a": 7, "b": "x"}))

    def test_set(self):
        self.after(("set", "a"), "new", wanted=(4, [], 5, [], None, {"a": "new", "b": "x"}))
        self.after(("set", "c"), 0, wanted=(4, [], 5, [], None, {"a": 7, "b": "x", "c": 0}))

    def test_unless_goes_on_where_it_counts_as_yes(self):
        for value in (1, 10006, "a", "no"):
            self.after(("unless", 6), value, wanted=(4, [], 5, [], None, {"a": 7, "b": "x"}))

    def test_unless_goes_to_its_place_where_it_does_not(self):
        for value in (0, ""):
            self.after(("unless", 6), value, wanted=(6, [], 5, [], None, {"a": 7, "b": "x"}))

    def test_go(self):
        self.after(("go", 6), wanted=(6, [], 5, [], None, {"a": 7, "b": "x"}))
        self.after(("go", 0), wanted=(0, [], 5, [], None, {"a": 7, "b": "x"}))

    def test_top_counts_a_turn(self):
        self.after(("top",), wanted=(4, [], 4, [], None, {"a": 7, "b": "x"}))

    def test_the_last_turn_is_one_yet(self):
        self.after(("top",), left=1, wanted=(4, [], 0, [], None, {"a": 7, "b": "x"}))

    def test_top_with_no_turn_left(self):
        self.after(("top",), left=0, wanted=(3, [], -1, [], ("dry",), {"a": 7, "b": "x"}))

    def test_top_with_fewer_than_none_left(self):
        self.after(("top",), left=-3, wanted=(3, [], -1, [], ("dry",), {"a": 7, "b": "x"}))

    def test_end(self):
        self.after(("end",), wanted=(3, [], 5, [], ("done",), {"a": 7, "b": "x"}))
        self.after(("end",), left=0, wanted=(3, [], 0, [], ("done",), {"a": 7, "b": "x"}))


class RowByRow(unittest.TestCase):
    def steps(self, program, names, most):
        """What a state tells ahead of each row and at the end."""
        code = coded(program)
        state = State(names, most)
        told = [told_of(state)]
        while state.last is None:
            self.assertIsNone(do_row(code, state))
            told.append(told_of(state))
        return told

    def test_mixed_in_the_middle_of_an_expression(self):
        program = row(("say", ("add", number(1), ("sub", number(2), ("less", text("x"), A)))))
        self.assertEqual(self.steps(program, {}, 3), [
            (0, {}, [], 3, [], None),
            (1, {}, [1], 3, [], None),
            (2, {}, [1, 2], 3, [], None),
            (3, {}, [1, 2, "x"], 3, [], None),
            (4, {}, [1, 2, "x", 0], 3, [], None),
            (4, {}, [1, 2, "x", 0], 3, [], ("mixed", 4))])

    def test_a_while_row_by_row(self):
        program = row(("while", A, row(("say", A), ("set", "a", number(0)))))
        self.assertEqual(self.steps(program, {"a": 9}, 2), [
            (0, {"a": 9}, [], 2, [], None),
            (1, {"a": 9}, [], 1, [], None),
            (2, {"a": 9}, [9], 1, [], None),
            (3, {"a": 9}, [], 1, [], None),
            (4, {"a": 9}, [9], 1, [], None),
            (5, {"a": 9}, [], 1, [9], None),
            (6, {"a": 9}, [0], 1, [9], None),
            (7, {"a": 0}, [], 1, [9], None),
            (0, {"a": 0}, [], 1, [9], None),
            (1, {"a": 0}, [], 0, [9], None),
            (2, {"a": 0}, [0], 0, [9], None),
            (8, {"a": 0}, [], 0, [9], None),
            (8, {"a": 0}, [], 0, [9], ("done",))])

    def test_a_dry_row_that_is_done_again(self):
        code = coded(row(("while", A, row())))
        state = State({}, 0)
        for _ in range(3):
            do_row(code, state)
            self.assertEqual(told_of(state), (0, {}, [], -1, [], ("dry",)))

    def test_a_state_that_was_made_to_stand_elsewhere_goes_on_there(self):
        code = coded(row(("say", ("add", number(1), number(2))), ("say", A)))
        state = State({"a": "z"}, 0)
        state.stack.append(30)
        state.stack.append(12)
        state.said.append("ahead")
        state.stand(2)
        while state.last is None:
            do_row(code, state)
        self.assertEqual(told_of(state), (6, {"a": "z"}, [], 0, ["ahead", 42, "z"], ("done",)))


class Walked(unittest.TestCase):
    def test_nothing(self):
        self.assertEqual(ran(row(), {}, 0), ([], ("done",), {}))

    def test_kinds_of_what_is_given(self):
        said, last, names = got = ran(row(SAY_A), {"a": 1}, 0)
        self.assertEqual([type(thing) for thing in (got, said, last, names)],
                         [tuple, list, tuple, dict])

    def test_what_was_told_in_its_order(self):
        program = row(("say", number(2)), ("say", text("b")), ("say", number(2)), ("say", text("")))
        self.assertEqual(ran(program, {}, 0), ([2, "b", 2, ""], ("done",), {}))

    def test_names_handed_in_or_set(self):
        program = row(("set", "b", name("c")), ("say", name("d")), ("set", "a", text("x")))
        self.assertEqual(ran(program, {"a": 1, "h": 5}, 0),
                         ([0], ("done",), {"a": "x", "h": 5, "b": 0}))

    def test_names_of_a_run_that_ended_mixed_or_dry(self):
        program = row(("set", "b", number(1)), ("say", ("add", number(1), text("x"))),
                      ("set", "c", number(1)))
        self.assertEqual(ran(program, {"a": 2}, 0), ([], ("mixed", 4), {"a": 2, "b": 1}))
        program = row(("set", "b", number(1)), ("while", number(1), row()), ("set", "c", number(1)))
        self.assertEqual(ran(program, {"a": 2}, 9), ([], ("dry",), {"a": 2, "b": 1}))

    def test_the_names_handed_in_stay_as_they_were(self):
        names = {"a": 2}
        said, last, behind = ran(row(SAY_A, COUNT_UP, ("set", "b", A)), names, 0)
        self.assertEqual(names, {"a": 2})
        names["a"] = 8
        self.assertEqual(behind, {"a": 3, "b": 3})
        behind["a"] = "other"
        said.append("other")
        self.assertEqual(names, {"a": 8})

    def test_what_was_given_back_is_nobody_elses(self):
        code = coded(row(SAY_A, COUNT_UP))
        said, _, names = walked(code, {"a": 2}, 0)
        said.append(99)
        names["a"] = 99
        self.assertEqual(walked(code, {"a": 2}, 0), ([2], ("done",), {"a": 3}))

    def test_names_given_back_where_none_was_set(self):
        names = {"a": 2}
        behind = ran(row(SAY_A), names, 0)[2]
        behind["a"] = 3
        self.assertEqual(names, {"a": 2})

    def test_if_both_ways(self):
        program = row(("if", A, row(("say", text("yes"))), row(("say", text("no")))),
                      ("say", text("behind")))
        for value in (1, "x"):
            self.assertEqual(ran(program, {"a": value}, 0)[0], ["yes", "behind"])
        for value in (0, ""):
            self.assertEqual(ran(program, {"a": value}, 0)[0], ["no", "behind"])
        self.assertEqual(ran(program, {}, 0)[0], ["no", "behind"])

    def test_mixed_tells_the_place_of_the_sign(self):
        program = row(SAY_A, ("set", "b", ("add", ("add", A, number(1)), text("x"))), SAY_A)
        self.assertEqual(ran(program, {"a": 4}, 0), ([4], ("mixed", 6), {"a": 4}))
        self.assertEqual(ran(program, {"a": "q"}, 0), (["q"], ("mixed", 4), {"a": "q"}))

    def test_same_of_unlike_kinds_does_not_end_it(self):
        self.assertEqual(ran(row(("say", ("same", A, text("")))), {}, 0), ([0], ("done",), {}))


class Turns(unittest.TestCase):
    def test_most_0_without_a_while(self):
        self.assertEqual(ran(row(SAY_A), {}, 0), ([0], ("done",), {}))

    def test_most_0_with_a_while(self):
        program = row(("say", number(1)), ("while", A, row()), ("say", number(2)))
        self.assertEqual(ran(program, {}, 0), ([1], ("dry",), {}))

    def test_a_while_that_never_begins_counts_a_turn(self):
        program = row(("while", A, row(SAY_A)), ("say", number(2)))
        self.assertEqual(ran(program, {}, 1), ([2], ("done",), {}))
        self.assertEqual(ran(program, {}, 0), ([], ("dry",), {}))

    def test_counting_down(self):
        program = row(("while", A, row(SAY_A, COUNT_DOWN)), ("say", text("end")))
        self.assertEqual(ran(program, {"a": 3}, 4), ([3, 2, 1, "end"], ("done",), {"a": 0}))
        self.assertEqual(ran(program, {"a": 3}, 5000), ([3, 2, 1, "end"], ("done",), {"a": 0}))
        self.assertEqual(ran(program, {"a": 3}, 3), ([3, 2, 1], ("dry",), {"a": 0}))
        self.assertEqual(ran(program, {"a": 3}, 2), ([3, 2], ("dry",), {"a": 1}))
        self.assertEqual(ran(program, {"a": 3}, 0), ([], ("dry",), {"a": 3}))

    def test_a_text_that_gets_shorter(self):
        program = row(("while", A, row(SAY_A, ("set", "a", ("sub", A, name("b"))),
                                       ("set", "b", text("xy")))))
        self.assertEqual(ran(program, {"a": "xzy", "b": "z"}, 3),
                         (["xzy", "xy"], ("done",), {"a": "", "b": "xy"}))

    def test_whiles_within_one_another(self):
        program = row(
            ("while", ("less", A, number(3)), row(
                ("set", "b", number(0)),
                ("while", ("less", name("b"), A), row(
                    ("set", "b", ("add", name("b"), number(1))), ("say", name("b")))),
                COUNT_UP)),
            ("say", text("end")))
        wanted = ([1, 1, 2, "end"], ("done",), {"a": 3, "b": 2})
        # Four turns of the outer one, and 1, 2 and 3 of the inner one.
        self.assertEqual(ran(program, {}, 10), wanted)
        self.assertEqual(ran(program, {}, 9), ([1, 1, 2], ("dry",), {"a": 3, "b": 2}))
        self.assertEqual(ran(program, {}, 8), ([1, 1, 2], ("dry",), {"a": 2, "b": 2}))

    def test_mixed_within_a_while(self):
        program = row(("while", ("same", number(1), number(1)), row(SAY_A, ("set", "a", name("b")),
                      ("set", "b", ("add", name("c"), name("b"))), ("set", "c", text("x")))))
        self.assertEqual(ran(program, {"b": 1}, 50), ([0, 1], ("mixed", 11), {"a": 1, "b": 1, "c": "x"}))

    def test_the_most_turns(self):
        program = row(("while", number(1), row(COUNT_UP)))
        self.assertEqual(ran(program, {}, 5000), ([], ("dry",), {"a": 5000}))
        self.assertEqual(ran(program, {}, 12000), ([], ("dry",), {"a": 12000 - 10007}))

    def test_fewer_turns_than_none(self):
        self.assertEqual(ran(row(("while", number(1), row())), {}, -1), ([], ("dry",), {}))
        self.assertEqual(ran(row(SAY_A), {}, -1), ([0], ("done",), {}))


class ManyPrograms(unittest.TestCase):
    def check(self, program, names, most):
        code = coded(program)
        given = dict(names)
        got = walked(code, names, most)
        self.assertEqual(got, TreeRun(names, most).run(program))
        self.assertEqual(names, given)
        return got[1][0]

    def test_any_programs(self):
        for seed in range(200):
            self.check(Maker(seed).row(5), {"a": 1, "b": "x", "c": ""}, 30)

    def test_programs_that_run_a_while(self):
        ends = {"done": 0, "dry": 0, "mixed": 0}
        for seed in range(400):
            maker = LivelyMaker(seed)
            ends[self.check(maker.program(), maker.names(), maker.chance.choice((5, 60, 300)))] += 1
        for end, often in ends.items():
            self.assertGreater(often, 40, end)

    def test_programs_whose_kinds_change(self):
        for seed in range(40):
            maker = RestlessMaker(seed)
            self.check(maker.program(), maker.names(), maker.chance.choice((20, 100)))


if __name__ == "__main__":
    unittest.main()
