"""Points [9] and [10]: the form of quick rows, and how they are made."""

import copy
import random
import unittest

from helper import (
    LivelyMaker, all_tuples, guessed, name, number, row, run_made, seen_of, text, told_of)
from hunch.codes import coded
from hunch.errors import HunchError, NoTop
from hunch.making import quick_rows
from hunch.notes import Notes
from hunch.plain import State, do_row

A, B, C = name("a"), name("b"), name("c")
NN, TT, NT, TN = ("n", "n"), ("t", "t"), ("n", "t"), ("t", "n")


class Made(unittest.TestCase):
    def made(self, parts, *wanted, kinds=None, ways=None, top=0, most=200):
        """The program of these parts has these quick rows behind the turn."""
        code = coded(row(*parts))
        notes = Notes(kinds or {}, ways or {})
        got = quick_rows(code, top, notes, most)
        self.assertEqual(got, (("turn",),) + wanted)
        self.assertTrue(all_tuples(got))
        self.assertEqual((notes.kinds, notes.ways), (kinds or {}, ways or {}))
        self.assertEqual(notes.count(top), 0)
        self.assertEqual(quick_rows(code, top, notes, most), got)


class EachRow(Made):
    def test_num_text_and_say(self):
        # 0 top, 1 num, 2 unless 8, 3 num, 4 say, 5 text, 6 say, 7 go 0, 8 end
        self.made([("while", number(1), row(("say", number(50)), ("say", text("x"))))],
                  ("num", 0, 1), ("so", 0, 1, (8, (), ())),
                  ("num", 1, 50), ("say", 1), ("text", 2, "x"), ("say", 2), ("again",),
                  ways={2: True})

    def test_each_number_and_text_has_a_slot_of_its_own(self):
        self.made([("while", number(1), row(("say", number(1)), ("say", text("")), ("say", text(""))))],
                  ("num", 0, 1), ("so", 0, 1, (10, (), ())),
                  ("num", 1, 1), ("say", 1), ("text", 2, ""), ("say", 2), ("text", 3, ""), ("say", 3),
                  ("again",), ways={2: True})

    def test_a_name_that_is_read_twice(self):
        self.made([("while", A, row(("say", A), ("say", B), ("say", A), ("say", B)))],
                  ("get", 0, "a"), ("so", 0, 1, (12, (), ())),
                  ("say", 0), ("get", 1, "b"), ("say", 1), ("say", 0), ("say", 1), ("again",),
                  ways={2: True})

    def test_a_name_that_is_read_before_and_after_it_was_set(self):
        self.made([("while", A, row(("say", A), ("set", "a", number(5)), ("say", A)))],
                  ("get", 0, "a"), ("so", 0, 1, (10, (), ())),
                  ("say", 0), ("num", 1, 5), ("say", 1), ("put", "a", 1), ("again",),
                  ways={2: True})

    def test_a_name_that_is_read_only_after_it_was_set(self):
        self.made([("while", number(1), row(("set", "a", text("x")), ("say", A)))],
                  ("num", 0, 1), ("so", 0, 1, (8, (), ())),
                  ("text", 1, "x"), ("say", 1), ("put", "a", 1), ("again",),
                  ways={2: True})

    def test_a_name_that_gets_what_another_has(self):
        self.made([("while", A, row(("set", "b", A), ("set", "a", number(2)), ("say", B), ("say", A)))],
                  ("get", 0, "a"), ("so", 0, 1, (12, (), ())),
                  ("num", 1, 2), ("say", 0), ("say", 1), ("put", "a", 1), ("put", "b", 0), ("again",),
                  ways={2: True})

    def test_names_that_change_places(self):
        self.made([("while", A, row(("set", "c", A), ("set", "a", B), ("set", "b", C)))],
                  ("get", 0, "a"), ("so", 0, 1, (10, (), ())), ("get", 1, "b"),
                  ("put", "a", 1), ("put", "b", 0), ("put", "c", 0), ("again",),
                  ways={2: True})

    def test_a_name_that_gets_what_it_has_was_set(self):
        self.made([("while", A, row(("set", "a", A)))],
                  ("get", 0, "a"), ("so", 0, 1, (6, (), ())), ("put", "a", 0), ("again",),
                  ways={2: True})

    def test_a_name_that_is_set_twice_is_put_once(self):
        self.made([("while", A, row(("set", "b", number(1)), ("set", "b", number(2))))],
                  ("get", 0, "a"), ("so", 0, 1, (8, (), ())), ("num", 1, 1), ("num", 2, 2),
                  ("put", "b", 2), ("again",), ways={2: True})

    def test_puts_by_names_rising(self):
        self.made([("while", A, row(*[("set", x, number(ord(x))) for x in "hbgacfed"]))],
                  ("get", 0, "a"), ("so", 0, 1, (20, (), ())),
                  *[("num", at + 1, ord(x)) for at, x in enumerate("hbgacfed")],
                  ("put", "a", 4), ("put", "b", 2), ("put", "c", 5), ("put", "d", 8),
                  ("put", "e", 7), ("put", "f", 6), ("put", "g", 3), ("put", "h", 1),
                  ("again",), ways={2: True})

    def test_a_name_that_is_only_read_is_not_put(self):
        self.made([("while", A, row(("say", B)))],
                  ("get", 0, "a"), ("so", 0, 1, (6, (), ())), ("get", 1, "b"), ("say", 1), ("again",),
                  ways={2: True})


class Signs(Made):
    """`while` over a sign of two: 0 top, 1, 2 the two, 3 the sign, 4 unless 6, 5 go 0, 6 end."""

    def signs(self, one, two, guess, *wanted, signs=("add", "sub", "less")):
        for sign in signs:
            self.made([("while", (sign, one, two), row())],
                      *[(sign,) + here[1:] if here[0] == "SIGN" else here for here in wanted],
                      ("so", 2, 1, (6, (), ())), ("again",),
                      kinds={3: guess} if guess else {}, ways={4: True})

    def leaves(self, one, two, guess, *wanted):
        for sign in ("add", "sub", "less"):
            self.made([("while", (sign, one, two), row())],
                      *wanted, ("leave", (3, (), (0, 1))),
                      kinds={3: guess} if guess else {}, ways={4: True})

    def test_guards_for_both(self):
        for kind in "nt":
            self.signs(A, B, (kind, kind), ("get", 0, "a"), ("get", 1, "b"),
                       ("is", 0, kind, (3, (), (0, 1))), ("is", 1, kind, (3, (), (0, 1))),
                       ("SIGN", kind, 2, 0, 1))

    def test_a_guard_for_the_first(self):
        self.signs(A, number(5), NN, ("get", 0, "a"), ("num", 1, 5),
                   ("is", 0, "n", (3, (), (0, 1))), ("SIGN", "n", 2, 0, 1))
        self.signs(A, text("x"), TT, ("get", 0, "a"), ("text", 1, "x"),
                   ("is", 0, "t", (3, (), (0, 1))), ("SIGN", "t", 2, 0, 1))

    def test_a_guard_for_the_second(self):
        self.signs(number(5), A, NN, ("num", 0, 5), ("get", 1, "a"),
                   ("is", 1, "n", (3, (), (0, 1))), ("SIGN", "n", 2, 0, 1))
        self.signs(text("x"), A, TT, ("text", 0, "x"), ("get", 1, "a"),
                   ("is", 1, "t", (3, (), (0, 1))), ("SIGN", "t", 2, 0, 1))

    def test_no_guard_and_no_guess_where_both_are_known(self):
        for guess in (None, NN, TT, NT):
            self.signs(number(1), number(2), guess,
                       ("num", 0, 1), ("num", 1, 2), ("SIGN", "n", 2, 0, 1))
            self.signs(text(""), text("y"), guess,
                       ("text", 0, ""), ("text", 1, "y"), ("SIGN", "t", 2, 0, 1))

    def test_a_guess_that_is_lacking(self):
        self.leaves(A, B, None, ("get", 0, "a"), ("get", 1, "b"))
        self.leaves(A, number(1), None, ("get", 0, "a"), ("num", 1, 1))
        self.leaves(text("x"), A, None, ("text", 0, "x"), ("get", 1, "a"))

    def test_unlike_guesses(self):
        for guess in (NT, TN):
            self.leaves(A, B, guess, ("get", 0, "a"), ("get", 1, "b"))

    def test_a_guess_that_is_unlike_what_is_known(self):
        for guess in (TN, TT):
            self.leaves(A, number(1), guess, ("get", 0, "a"), ("num", 1, 1))
            self.leaves(text("x"), A, (guess[0], "n"), ("text", 0, "x"), ("get", 1, "a"))
        for guess in (NT, NN):
            self.leaves(A, text("x"), guess, ("get", 0, "a"), ("text", 1, "x"))
            self.leaves(number(1), A, (guess[0], "t"), ("num", 0, 1), ("get", 1, "a"))

    def test_what_is_known_counts_more_than_its_guess(self):
        self.signs(A, number(1), NT, ("get", 0, "a"), ("num", 1, 1),
                   ("is", 0, "n", (3, (), (0, 1))), ("SIGN", "n", 2, 0, 1))
        self.signs(number(1), A, TN, ("num", 0, 1), ("get", 1, "a"),
                   ("is", 1, "n", (3, (), (0, 1))), ("SIGN", "n", 2, 0, 1))
        self.signs(text("x"), A, NT, ("text", 0, "x"), ("get", 1, "a"),
                   ("is", 1, "t", (3, (), (0, 1))), ("SIGN", "t", 2, 0, 1))

    def test_known_kinds_that_are_unlike(self):
        for guess in (None, NN, TT, NT):
            self.leaves(number(1), text("x"), guess, ("num", 0, 1), ("text", 1, "x"))
            self.leaves(text("x"), number(1), guess, ("text", 0, "x"), ("num", 1, 1))

    def test_a_slot_with_itself_is_guarded_once(self):
        for sign in ("add", "sub", "less"):
            for kind in "nt":
                self.made([("while", (sign, A, A), row())],
                          ("get", 0, "a"), ("is", 0, kind, (3, (), (0, 0))), (sign, kind, 1, 0, 0),
                          ("so", 1, 1, (6, (), ())), ("again",),
                          kinds={3: (kind, kind)}, ways={4: True})
            self.made([("while", (sign, A, A), row())], ("get", 0, "a"), ("leave", (3, (), (0, 0))),
                      kinds={3: NT}, ways={4: True})

    def test_same_has_no_guards(self):
        for guess in (None, NN, TT, NT):
            for one, two, first, second in (
                    (A, B, ("get", 0, "a"), ("get", 1, "b")),
                    (A, number(1), ("get", 0, "a"), ("num", 1, 1)),
                    (number(0), text(""), ("num", 0, 0), ("text", 1, "")),
                    (text("x"), text("x"), ("text", 0, "x"), ("text", 1, "x"))):
                self.signs(one, two, guess, first, second, ("SIGN", "any", 2, 0, 1), signs=("same",))

    def test_guesses_at_places_of_other_rows_mean_nothing(self):
        self.made([("while", ("add", A, B), row())],
                  ("get", 0, "a"), ("get", 1, "b"), ("leave", (3, (), (0, 1))),
                  kinds={0: NN, 1: NN, 2: NN, 4: NN, 5: NN, 6: NN, 99: NN, -1: NN}, ways={3: True})
        self.made([("while", A, row())], ("get", 0, "a"), ("leave", (2, (), (0,))),
                  ways={0: True, 1: True, 3: True, 4: True, 9: True, -1: True}, kinds={2: NN})


class KnownKinds(Made):
    """`while 1` over one say: 0 top, 1 num, 2 unless, and the say's rows from 3 on."""

    def says(self, expression, *wanted, kinds=None):
        behind = len(coded(row(("while", number(1), row(("say", expression)))))) - 1
        self.made([("while", number(1), row(("say", expression)))],
                  ("num", 0, 1), ("so", 0, 1, (behind, (), ())), *wanted, ("again",),
                  kinds=kinds, ways={2: True})

    def test_of_signs_of_numbers(self):
        for sign in ("add", "sub", "less"):
            self.says(("add", (sign, number(7), number(8)), number(9)),
                      ("num", 1, 7), ("num", 2, 8), (sign, "n", 3, 1, 2), ("num", 4, 9),
                      ("add", "n", 5, 3, 4), ("say", 5))

    def test_of_add_and_sub_of_texts(self):
        for sign in ("add", "sub"):
            self.says(("less", text("q"), (sign, text("x"), text("y"))),
                      ("text", 1, "q"), ("text", 2, "x"), ("text", 3, "y"), (sign, "t", 4, 2, 3),
                      ("less", "t", 5, 1, 4), ("say", 5))

    def test_of_less_of_texts(self):
        self.says(("sub", ("less", text("x"), text("y")), number(9)),
                  ("text", 1, "x"), ("text", 2, "y"), ("less", "t", 3, 1, 2), ("num", 4, 9),
                  ("sub", "n", 5, 3, 4), ("say", 5))

    def test_of_same(self):
        self.says(("sub", ("same", text("x"), text("y")), number(9)),
                  ("text", 1, "x"), ("text", 2, "y"), ("same", "any", 3, 1, 2), ("num", 4, 9),
                  ("sub", "n", 5, 3, 4), ("say", 5))

    def test_by_an_is(self):
        # 3 a, 4 num, 5 add, 6 a, 7 b, 8 add, 9 add
        self.says(("add", ("add", A, number(5)), ("add", A, B)),
                  ("get", 1, "a"), ("num", 2, 5), ("is", 1, "n", (5, (), (1, 2))),
                  ("add", "n", 3, 1, 2), ("get", 4, "b"), ("is", 4, "n", (8, (), (3, 1, 4))),
                  ("add", "n", 5, 1, 4), ("add", "n", 6, 3, 5), ("say", 6),
                  kinds={5: NN, 8: NN})

    def test_by_an_is_counts_more_than_the_guess(self):
        self.says(("add", ("add", A, number(5)), ("add", A, B)),
                  ("get", 1, "a"), ("num", 2, 5), ("is", 1, "n", (5, (), (1, 2))),
                  ("add", "n", 3, 1, 2), ("get", 4, "b"), ("is", 4, "n", (8, (), (3, 1, 4))),
                  ("add", "n", 5, 1, 4), ("add", "n", 6, 3, 5), ("say", 6),
                  kinds={5: NN, 8: TN})

    def test_what_is_known_is_known_of_the_slot_not_of_the_name(self):
        # 3 b, 4 text, 5 add, 6 set a, 7 b, 8 set c, 9 d, 10 set b, 11 c, 12 b, 13 add, 14 say, 15 go 0
        self.made([("while", number(1), row(
            ("set", "a", ("add", B, text("x"))), ("set", "c", B), ("set", "b", name("d")),
            ("say", ("add", C, B))))],
                  ("num", 0, 1), ("so", 0, 1, (16, (), ())),
                  ("get", 1, "b"), ("text", 2, "x"), ("is", 1, "t", (5, (), (1, 2))),
                  ("add", "t", 3, 1, 2), ("get", 4, "d"),
                  ("is", 4, "t", (13, (("a", 3), ("b", 4), ("c", 1)), (1, 4))),
                  ("add", "t", 5, 1, 4), ("say", 5),
                  ("put", "a", 3), ("put", "b", 4), ("put", "c", 1), ("again",),
                  kinds={5: TT, 13: TT}, ways={2: True})

    def test_a_so_or_a_same_makes_no_kind_known(self):
        # 0 top, 1 a, 2 unless, 3 a, 4 num, 5 same, 6 say, 7 a, 8 num, 9 add, 10 say, 11 go, 12 end
        self.made([("while", A, row(("say", ("same", A, number(1))), ("say", ("add", A, number(1)))))],
                  ("get", 0, "a"), ("so", 0, 1, (12, (), ())),
                  ("num", 1, 1), ("same", "any", 2, 0, 1), ("say", 2),
                  ("num", 3, 1), ("is", 0, "n", (9, (), (0, 3))), ("add", "n", 4, 0, 3), ("say", 4),
                  ("again",), kinds={9: NN}, ways={2: True})


class Exits(Made):
    def test_what_is_half_reckoned(self):
        # 3 num, 4 num, 5 a, 6 b, 7 less, 8 sub, 9 add, 10 say, 11 go
        loop = ("while", number(1), row(("say", ("add", number(5), ("sub", number(6), ("less", A, B))))))
        self.made([loop],
                  ("num", 0, 1), ("so", 0, 1, (12, (), ())),
                  ("num", 1, 5), ("num", 2, 6), ("get", 3, "a"), ("get", 4, "b"),
                  ("is", 3, "t", (7, (), (1, 2, 3, 4))), ("is", 4, "t", (7, (), (1, 2, 3, 4))),
                  ("less", "t", 5, 3, 4), ("sub", "n", 6, 2, 5), ("add", "n", 7, 1, 6), ("say", 7),
                  ("again",), kinds={7: TT}, ways={2: True})
        self.made([loop],
                  ("num", 0, 1), ("so", 0, 1, (12, (), ())),
                  ("num", 1, 5), ("num", 2, 6), ("get", 3, "a"), ("get", 4, "b"),
                  ("leave", (7, (), (1, 2, 3, 4))), kinds={7: TN}, ways={2: True})

    def test_names_rising_of_those_that_were_set(self):
        # 3 num, 4 set h, 5 d, 6 set b, 7 e, 8 unless 12, 9 num, 10 set c, 11 go 12, 12 go 0, 13 end
        loop = ("while", number(1), row(
            ("set", "h", number(5)), ("set", "b", name("d")),
            ("if", name("e"), row(("set", "c", number(6))), row())))
        self.made([loop],
                  ("num", 0, 1), ("so", 0, 1, (13, (), ())), ("num", 1, 5), ("get", 2, "d"),
                  ("get", 3, "e"), ("so", 3, 0, (9, (("b", 2), ("h", 1)), ())),
                  ("put", "b", 2), ("put", "h", 1), ("again",), ways={2: True, 8: False})
        self.made([loop],
                  ("num", 0, 1), ("so", 0, 1, (13, (), ())), ("num", 1, 5), ("get", 2, "d"),
                  ("get", 3, "e"), ("leave", (8, (("b", 2), ("h", 1)), (3,))), ways={2: True})

    def test_names_as_they_are_at_the_guard(self):
        # 3 num, 4 set a, 5 a, 6 b, 7 add, 8 set a, 9 a, 10 c, 11 add, 12 set a, 13 go 0, 14 end
        self.made([("while", number(1), row(
            ("set", "a", number(5)), ("set", "a", ("add", A, B)), ("set", "a", ("add", A, C))))],
                  ("num", 0, 1), ("so", 0, 1, (14, (), ())), ("num", 1, 5), ("get", 2, "b"),
                  ("is", 2, "n", (7, (("a", 1),), (1, 2))), ("add", "n", 3, 1, 2), ("get", 4, "c"),
                  ("is", 4, "n", (11, (("a", 3),), (3, 4))), ("add", "n", 5, 3, 4),
                  ("put", "a", 5), ("again",), kinds={7: NN, 11: NN}, ways={2: True})


class Ways(Made):
    def test_unless_of_the_while_itself(self):
        # 0 top, 1 a, 2 unless 4, 3 go 0, 4 end
        loop = ("while", A, row())
        self.made([loop], ("get", 0, "a"), ("so", 0, 1, (4, (), ())), ("again",), ways={2: True})
        self.made([loop], ("get", 0, "a"), ("so", 0, 0, (3, (), ())), ("leave", (4, (), ())),
                  ways={2: False})
        self.made([loop], ("get", 0, "a"), ("leave", (2, (), (0,))))

    def test_an_if_within(self):
        # 3 b, 4 unless 8, 5 num, 6 say, 7 go 10, 8 num, 9 set c, 10 c, 11 say, 12 go 0, 13 end
        loop = ("while", A, row(("if", B, row(("say", number(7))), row(("set", "c", number(8)))),
                                ("say", C)))
        ahead = (("get", 0, "a"), ("so", 0, 1, (13, (), ())), ("get", 1, "b"))
        self.made([loop], *ahead, ("so", 1, 1, (8, (), ())), ("num", 2, 7), ("say", 2),
                  ("get", 3, "c"), ("say", 3), ("again",), ways={2: True, 4: True})
        self.made([loop], *ahead, ("so", 1, 0, (5, (), ())), ("num", 2, 8), ("say", 2),
                  ("put", "c", 2), ("again",), ways={2: True, 4: False})
        self.made([loop], *ahead, ("leave", (4, (), (1,))), ways={2: True})

    def test_behind_the_while_where_it_is_guessed_to_be_over(self):
        # 0 top, 1 a, 2 unless 6, 3 num, 4 set a, 5 go 0, 6 a, 7 num, 8 add, 9 set b, 10 end
        parts = [("while", A, row(("set", "a", number(0)))), ("set", "b", ("add", A, number(1)))]
        self.made(parts, ("get", 0, "a"), ("so", 0, 0, (3, (), ())), ("num", 1, 1),
                  ("is", 0, "n", (8, (), (0, 1))), ("add", "n", 2, 0, 1),
                  ("leave", (10, (("b", 2),), ())), kinds={8: NN}, ways={2: False})

    def test_another_while_behind(self):
        # 0 top, 1 a, 2 unless 4, 3 go 0, 4 num, 5 set c, 6 top, 7 b, 8 unless 10, 9 go 6, 10 end
        parts = [("while", A, row()), ("set", "c", number(1)), ("while", B, row())]
        self.made(parts, ("get", 0, "a"), ("so", 0, 0, (3, (), ())), ("num", 1, 1),
                  ("leave", (6, (("c", 1),), ())), ways={2: False, 8: True})
        self.made(parts, ("get", 0, "b"), ("so", 0, 1, (10, (), ())), ("again",),
                  ways={2: False, 8: True}, top=6)

    def test_whiles_within_one_another(self):
        # 0 top, 1 a, 2 unless 14, 3 num, 4 set b, 5 top, 6 b, 7 unless 11, 8 num, 9 set b, 10 go 5,
        # 11 num, 12 say, 13 go 0, 14 end
        parts = [("while", A, row(("set", "b", number(5)),
                                  ("while", B, row(("set", "b", number(0)))),
                                  ("say", number(9))))]
        self.made(parts, ("get", 0, "a"), ("so", 0, 1, (14, (), ())), ("num", 1, 5),
                  ("leave", (5, (("b", 1),), ())), ways={2: True, 7: True})
        self.made(parts, ("get", 0, "b"), ("so", 0, 1, (11, (), ())), ("num", 1, 0),
                  ("put", "b", 1), ("again",), ways={2: True, 7: True}, top=5)
        self.made(parts, ("get", 0, "b"), ("so", 0, 0, (8, (), ())), ("num", 1, 9), ("say", 1),
                  ("leave", (0, (), ())), ways={2: True, 7: False}, top=5)

    def test_a_while_within_the_first_one_alone(self):
        # 0 top, 1 a, 2 unless 8, 3 top, 4 b, 5 unless 7, 6 go 3, 7 go 0, 8 end
        parts = [("while", A, row(("while", B, row())))]
        self.made(parts, ("get", 0, "a"), ("so", 0, 1, (8, (), ())), ("leave", (3, (), ())),
                  ways={2: True, 5: True})
        self.made(parts, ("get", 0, "b"), ("so", 0, 0, (6, (), ())), ("leave", (0, (), ())),
                  ways={5: False}, top=3)


class Most(Made):
    # 0 top, 1 a, 2 num, 3 less, 4 unless 10, 5 a, 6 num, 7 add, 8 set a, 9 go 0, 10 end
    LOOP = ("while", ("less", A, number(3)), row(("set", "a", ("add", A, number(1)))))
    ROWS = (("get", 0, "a"), ("num", 1, 3), ("is", 0, "n", (3, (), (0, 1))), ("less", "n", 2, 0, 1),
            ("so", 2, 1, (10, (), ())), ("num", 3, 1), ("add", "n", 4, 0, 3))

    def cut(self, most, many, *wanted):
        self.made([self.LOOP], *self.ROWS[:many], *wanted,
                  kinds={3: NN, 7: NN}, ways={4: True}, most=most)

    def test_1_and_fewer(self):
        for most in (1, 0, -5):
            self.cut(most, 0, ("leave", (1, (), ())))

    def test_at_each_place(self):
        self.cut(2, 1, ("leave", (2, (), (0,))))
        self.cut(3, 2, ("leave", (3, (), (0, 1))))
        # The guard and the sign's row are of one place.
        self.cut(4, 4, ("leave", (4, (), (2,))))
        self.cut(5, 4, ("leave", (4, (), (2,))))
        # The name has a slot already and no row; so the next place is looked at, too.
        self.cut(6, 5, ("leave", (5, (), ())))
        self.cut(7, 6, ("leave", (7, (), (0, 3))))

    def test_one_too_few_to_end_with_again(self):
        self.cut(8, 7, ("leave", (8, (), (4,))))

    def test_just_enough_to_end_with_again(self):
        for most in (9, 10, 11, 200, 5000):
            self.cut(most, 7, ("put", "a", 4), ("again",))

    def test_the_top_itself_is_looked_at_first(self):
        # 0 top, 1 num, 2 unless 4, 3 go 0, 4 end: at 3 there are three rows.
        loop = [("while", number(1), row())]
        self.made(loop, ("num", 0, 1), ("so", 0, 1, (4, (), ())), ("leave", (3, (), ())),
                  ways={2: True}, most=3)
        self.made(loop, ("num", 0, 1), ("so", 0, 1, (4, (), ())), ("again",),
                  ways={2: True}, most=4)

    def test_places_without_rows_of_their_own(self):
        # 0 top, 1 a, 2 unless 8, 3 a, 4 set b, 5 a, 6 set c, 7 go 0, 8 end
        loop = [("while", A, row(("set", "b", A), ("set", "c", A)))]
        self.made(loop, ("get", 0, "a"), ("so", 0, 1, (8, (), ())), ("leave", (3, (), ())),
                  ways={2: True}, most=3)
        self.made(loop, ("get", 0, "a"), ("so", 0, 1, (8, (), ())),
                  ("put", "b", 0), ("put", "c", 0), ("again",), ways={2: True}, most=4)

    def test_a_long_while(self):
        loop = [("while", number(1), row(*[("say", number(n)) for n in range(300)]))]
        rows = [("num", 0, 1), ("so", 0, 1, (604, (), ()))]
        for n in range(300):
            rows += [("num", n + 1, n), ("say", n + 1)]
        self.made(loop, *rows, ("again",), ways={2: True}, most=604)
        self.made(loop, *rows, ("leave", (603, (), ())), ways={2: True}, most=603)
        self.made(loop, *rows[:199], ("leave", (200, (), (99,))), ways={2: True}, most=200)


class NoTops(unittest.TestCase):
    CODE = coded(row(("set", "a", number(2)), ("while", A, row(
        ("if", A, row(("while", B, row())), row(("say", ("add", A, text("x")))))))))

    def test_places_of_other_rows_and_numbers_beyond(self):
        notes = Notes({}, {})
        tops = [place for place, here in enumerate(self.CODE) if here == ("top",)]
        self.assertEqual(tops, [2, 7])
        for place in range(-2 * len(self.CODE), 2 * len(self.CODE)):
            if place in tops:
                self.assertEqual(quick_rows(self.CODE, place, notes, 9)[0], ("turn",))
            else:
                with self.assertRaises(NoTop):
                    quick_rows(self.CODE, place, notes, 9)

    def test_a_top_counted_from_behind_is_none(self):
        for top in (2, 7):
            with self.assertRaises(NoTop) as caught:
                quick_rows(self.CODE, top - len(self.CODE), Notes({}, {}), 9)
            self.assertIsInstance(caught.exception, HunchError)
            self.assertIs(type(caught.exception), NoTop)

    def test_it_is_refused_whatever_most_is(self):
        for most in (-1, 0, 1, 200):
            with self.assertRaises(NoTop):
                quick_rows(coded(row()), 0, Notes({}, {}), most)


class ManyPrograms(unittest.TestCase):
    def form(self, rows):
        """The rows are of the form that point [9] tells."""
        self.assertEqual(rows[0], ("turn",))
        self.assertTrue(all_tuples(rows))
        slots = 0
        for here in rows[1:-1]:
            self.assertNotIn(here[0], ("turn", "again", "leave"))
            new = {"num": 1, "text": 1, "get": 1, "add": 2, "sub": 2, "less": 2, "same": 2}.get(here[0])
            if new:
                self.assertEqual(here[new], slots)
                slots += 1
        self.assertIn(rows[-1][0], ("again", "leave"))
        for here in rows:
            if here[0] in ("is", "so", "leave"):
                pairs = here[-1][1]
                self.assertEqual([x for x, _ in pairs], sorted({x for x, _ in pairs}))

    def comes_to_the_same(self, code, rows, state):
        """Plain rows from the state come to where quick rows do from there."""
        quick, plain = copy.deepcopy(state), copy.deepcopy(state)
        by = run_made(rows, quick)
        wanted = told_of(quick)
        do_row(code, plain)
        while seen_of(plain) != wanted:
            self.assertIsNone(plain.last, (rows, wanted))
            do_row(code, plain)
        self.assertEqual(by == -1, quick.last is not None)

    def test_by_what_was_noted(self):
        ends = {"again": 0, "leave": 0}
        for seed in range(250):
            maker = LivelyMaker(seed)
            code = coded(maker.program())
            notes, state = Notes({}, {}), State(maker.names(), 60)
            while state.last is None:
                notes.see(code, state)
                if code[state.place] == ("top",) and notes.count(state.place) in (3, 9):
                    most = maker.chance.choice((1, 5, 12, 200))
                    rows = quick_rows(code, state.place, notes, most)
                    ends[rows[-1][0]] += 1
                    self.form(rows)
                    self.comes_to_the_same(code, rows, state)
                do_row(code, state)
        self.assertGreater(min(ends.values()), 50)

    def test_by_any_guesses(self):
        for seed in range(250):
            maker = LivelyMaker(seed)
            code = coded(maker.program())
            chance = random.Random(seed)
            state = State(maker.names(), 40)
            while state.last is None:
                if code[state.place] == ("top",) and chance.random() < 0.2:
                    rows = quick_rows(code, state.place, Notes(*guessed(code, chance)), 200)
                    self.form(rows)
                    self.comes_to_the_same(code, rows, state)
                do_row(code, state)


if __name__ == "__main__":
    unittest.main()
