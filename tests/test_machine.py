"""Points [11] and [12]: the machine, and that what is told is the same whatever is guessed."""

import random
import unittest

from helper import (
    LivelyMaker, Maker, RestlessMaker, guessed, name, number, row, run_made, text)
from hunch.codes import coded
from hunch.machine import Machine
from hunch.making import quick_rows
from hunch.notes import Notes
from hunch.plain import State, do_row, walked

A, B, C = name("a"), name("b"), name("c")
NN, TT, NT, TN = ("n", "n"), ("t", "t"), ("n", "t"), ("t", "n")


def up(x, by=1):
    return ("set", x, ("add", name(x), number(by)))


class SlowMachine:
    """The machine by the words of points [8], [11] and [12], with notes of its own."""

    def __init__(self, code, names, most, limits):
        self.code, self.limits = code, limits
        self.state = State(names, most)
        self.kinds, self.ways, self.tops, self.quick, self.fell = {}, {}, {}, {}, {}
        self.all_made = self.all_fell = 0

    def hint(self, kinds, ways):
        self.kinds, self.ways = dict(kinds), dict(ways)

    def finish(self):
        while self.state.last is None:
            if self.state.place in self.quick:
                self.by_quick_rows(self.state.place)
            else:
                self.by_a_plain_row(self.state.place)
        return self.state.last

    def by_quick_rows(self, top):
        rows = self.quick[top]
        by = run_made(rows, self.state)
        if by != -1 and rows[by][0] in ("is", "so"):
            self.fell[top] += 1
            self.all_fell += 1
            if self.fell[top] > self.limits[1]:
                del self.quick[top]
                self.tops[top] = 0

    def by_a_plain_row(self, place):
        word, half = self.code[place][0], self.state.stack
        if word in ("add", "sub", "less"):
            self.kinds[place] = tuple("t" if isinstance(value, str) else "n" for value in half[-2:])
        if word == "unless":
            self.ways[place] = bool(half[-1])
        if word == "top":
            self.tops[place] = self.tops.get(place, 0) + 1
            if self.tops[place] == self.limits[0]:
                self.quick[place] = quick_rows(
                    self.code, place, Notes(self.kinds, self.ways), self.limits[2])
                self.fell[place] = 0
                self.all_made += 1
        do_row(self.code, self.state)


class Machines(unittest.TestCase):
    def finished(self, program, names, most, limits, kinds=None, ways=None):
        """A machine that has run to the end, and told what plain rows tell."""
        code = coded(program)
        machine = Machine(code, names, most, limits)
        if kinds is not None or ways is not None:
            self.assertIsNone(machine.hint(kinds or {}, ways or {}))
        last = machine.finish()
        self.assertEqual((machine.told(), last, machine.names_now()), walked(code, names, most))
        return machine

    def counted(self, *given, **more):
        return self.finished(*given, **more).counts()


class TellsTheSame(Machines):
    # 0 top, 1 a, 2 num, 3 less, 4 unless 12, 5 a, 6 say, 7 a, 8 num, 9 add, 10 set a, 11 go 0, 12 end
    LOOP = row(("while", ("less", A, number(10)), row(("say", A), up("a"))))

    def test_nothing(self):
        machine = Machine(coded(row()), {}, 0, (1, 0, 1))
        self.assertEqual(machine.finish(), ("done",))
        self.assertEqual((machine.told(), machine.names_now(), machine.counts()), ([], {}, (0, 0)))

    def test_done(self):
        machine = Machine(coded(self.LOOP), {"h": "x"}, 50, (2, 0, 200))
        self.assertEqual(machine.finish(), ("done",))
        self.assertEqual(machine.told(), list(range(10)))
        self.assertEqual(machine.names_now(), {"a": 10, "h": "x"})

    def test_dry_within_quick_rows_and_within_plain_rows(self):
        for hot in (1, 2, 3, 40):
            for most in range(12):
                machine = Machine(coded(self.LOOP), {}, most, (hot, 0, 200))
                wanted = ("dry",) if most < 11 else ("done",)
                self.assertEqual(machine.finish(), wanted)
                self.assertEqual(machine.told(), list(range(min(most, 10))))
                self.assertEqual(machine.names_now(), {"a": min(most, 10)} if most else {})

    def test_mixed_behind_a_guess_that_failed(self):
        # 0 top, 1 num, 2 unless, 3 num, 4 a, 5 add, 6 set b, 7 c, 8 set a, 9 d, 10 set c, 11 go 0
        program = row(("while", number(1), row(
            ("set", "b", ("add", number(3), A)), ("set", "a", C), ("set", "c", name("d")))))
        machine = self.finished(program, {"d": "x"}, 50, (2, 5, 200))
        self.assertEqual(machine.finish(), ("mixed", 5))
        self.assertEqual(machine.names_now(), {"a": "x", "b": 3, "c": "x", "d": "x"})
        self.assertEqual(machine.counts(), (1, 1))

    def test_turns_of_a_while_within_another_one(self):
        # 2 * (4 + 1) + 1 = 11 turns in all.
        program = row(("while", ("less", A, number(2)), row(
            ("set", "b", number(0)), ("while", ("less", B, number(4)), row(up("b"), ("say", B))), up("a"))))
        for hot in (1, 2, 3):
            for most in range(13):
                self.finished(program, {}, most, (hot, 1, 200))

    def test_names_that_have_other_kinds_in_each_turn(self):
        program = row(("while", ("less", A, number(40)), row(
            up("a"), ("set", "d", B), ("set", "b", C), ("set", "c", name("d")),
            ("say", ("add", B, B)), ("say", ("less", C, C)), ("say", ("same", B, C)))))
        for limits in ((1, 0, 200), (2, 3, 200), (3, 20, 30)):
            self.finished(program, {"b": "x", "c": 2}, 50, limits)

    def test_thousands_of_turns(self):
        program = row(("while", ("less", A, number(4999)), row(
            up("a"), ("if", ("same", A, B), row(("say", B), up("b", 1000)), row()))))
        for limits in ((1, 0, 1), (1, 0, 200), (40, 20, 200), (3, 2, 200)):
            machine = self.finished(program, {"b": 500}, 5000, limits)
            self.assertEqual(machine.finish(), ("done",))
            self.assertEqual(machine.told(), [500, 1500, 2500, 3500, 4500])
        self.assertEqual(self.finished(program, {}, 4999, (2, 20, 200)).finish(), ("dry",))

    def test_limits_beyond_those_of_the_document(self):
        for limits in ((0, 0, 200), (-1, -1, 0), (2, -3, 200), (1, 0, -1), (50, 30, 300), (2, 500, 9999)):
            self.finished(self.LOOP, {}, 50, limits)
        self.finished(self.LOOP, {}, -1, (1, 1, 1))
        self.finished(row(("while", number(1), row(up("a")))), {}, 7000, (2, 0, 200))


class Hot(Machines):
    LOOP = TellsTheSame.LOOP

    def test_made_once_the_top_was_come_to_so_often(self):
        # The top is come to 11 times; the last time the guess of its unless fails.
        for hot in range(2, 11):
            self.assertEqual(self.counted(self.LOOP, {}, 50, (hot, 0, 200)), (1, 1), hot)

    def test_to_be_run_only_when_it_is_come_to_again(self):
        self.assertEqual(self.counted(self.LOOP, {}, 50, (11, 0, 200)), (1, 0))

    def test_one_too_few(self):
        for hot in (12, 13, 40):
            self.assertEqual(self.counted(self.LOOP, {}, 50, (hot, 0, 200)), (0, 0))

    def test_made_by_what_was_noted_up_to_then(self):
        # At the first time nothing is noted, so they leave at the sign, each time.
        self.assertEqual(self.counted(self.LOOP, {}, 50, (1, 0, 200)), (1, 0))

    def test_a_top_that_ends_it_dry_is_come_to(self):
        self.assertEqual(self.counted(self.LOOP, {}, 0, (1, 0, 200)), (1, 0))
        self.assertEqual(self.counted(self.LOOP, {}, 2, (3, 0, 200)), (1, 0))
        self.assertEqual(self.counted(self.LOOP, {}, 1, (3, 0, 200)), (0, 0))

    def test_each_top_on_its_own(self):
        """Whiles of 3, 5 and 7 turns, one behind another, which fall back at their end."""
        program = row(*[("while", ("less", name(x), number(turns)), row(up(x)))
                        for x, turns in (("a", 2), ("b", 4), ("c", 6))])
        for hot, wanted in ((2, (3, 3)), (3, (3, 2)), (4, (2, 2)), (5, (2, 1)), (6, (1, 1)), (7, (1, 0)),
                            (8, (0, 0))):
            self.assertEqual(self.counted(program, {}, 50, (hot, 0, 200)), wanted, hot)

    def test_whiles_within_one_another(self):
        # 0 top, 1 a, 2 num 9, 3 less, 4 unless, 5 to 8 up a, 9 top, 10 num 0, 11 unless 13, 12 go 9, 13 go 0
        program = row(("while", ("less", A, number(9)), row(up("a"), ("while", number(0), row()))))
        # The outer top is come to 10 times and the inner one 9 times, though they fall back to one
        # another; only the guess that the outer one goes on fails, once, where it was made in time.
        for hot in range(2, 10):
            self.assertEqual(self.counted(program, {}, 50, (hot, 0, 200)), (2, 1), hot)
        self.assertEqual(self.counted(program, {}, 50, (10, 0, 200)), (1, 0))
        self.assertEqual(self.counted(program, {}, 50, (11, 0, 200)), (0, 0))


class Patience(Machines):
    # Every other turn goes the other way: 0 top, 1 a, 2 num, 3 less, 4 unless, 5 to 8 up a, 9 b,
    # 10 unless 14, 11 num 0, 12 set b, 13 go 16, 14 num 1, 15 set b, 16 go 0, 17 end
    SWING = row(("while", ("less", A, number(20)), row(
        up("a"), ("if", B, row(("set", "b", number(0))), row(("set", "b", number(1)))))))

    def test_thrown_away_after_more_than_that_many(self):
        # The top is come to at a = 0, 1, 2, ...; b is 0 there where a is even, else 1.
        # hot 2: made at a = 1, when the if has gone the way of no at a = 0; the turn itself is plain.
        # a = 2 goes well, a = 3 fails (1), a = 4 well, a = 5 fails (2), and so on up to a = 19 (9);
        # a = 20 fails by the while's own unless (10).
        self.assertEqual(self.counted(self.SWING, {}, 50, (2, 20, 200)), (1, 10))
        self.assertEqual(self.counted(self.SWING, {}, 50, (2, 10, 200)), (1, 10))
        # One fewer: thrown away with the tenth, when the while is over.
        self.assertEqual(self.counted(self.SWING, {}, 50, (2, 9, 200)), (1, 10))
        # patience 8: thrown away at a = 19 (9), a = 20 is plain, counted as the first time.
        self.assertEqual(self.counted(self.SWING, {}, 50, (2, 8, 200)), (1, 9))
        # patience 7: thrown away at a = 17 (8); 18 is the first time, 19 the second one: made, by
        # the way of no at 18; 20 fails by the while's own unless (9).
        self.assertEqual(self.counted(self.SWING, {}, 50, (2, 7, 200)), (2, 9))
        # patience 0: made at 1, 2 goes well, thrown away at 3 (1); 4 and 5 plain, made at 5, and so on:
        # made at 1, 5, 9, 13, 17, failed at 3, 7, 11, 15, 19; 20 is plain.
        self.assertEqual(self.counted(self.SWING, {}, 50, (2, 0, 200)), (5, 5))

    def test_counted_since_they_were_made(self):
        # patience 1, hot 2: made at 1, failed at 3 and 5; 6, 7 plain, made at 7, failed at 9, 11;
        # 12, 13 plain, made at 13, failed at 15, 17; 18, 19 plain, made at 19, failed at 20.
        self.assertEqual(self.counted(self.SWING, {}, 50, (2, 1, 200)), (4, 7))

    def test_the_top_is_counted_from_0(self):
        # hot 5, patience 0: made at 4, by the way of yes at 3; failed at 6 (4 plain, 5 goes well),
        # counted from 0: 7 to 11 plain, made at 11 by the way of no at 10; 12 well, 13 fails;
        # 14 to 18 plain, made at 18 by the way of yes at 17; 19 well, 20 fails.
        self.assertEqual(self.counted(self.SWING, {}, 50, (5, 0, 200)), (3, 3))

    def test_hot_1_makes_them_anew_at_once(self):
        # hot 1, patience 0: made at 0, without guesses: they leave at the less, and nothing fails.
        self.assertEqual(self.counted(self.SWING, {}, 50, (1, 0, 200)), (1, 0))
        # With guesses: made at 0; 1 fails at the if and is gone on plainly; made at 2 by the guesses
        # that hold: the if's way was not noted at 1, but no at 0. So 2 is plain, 3 fails, and so on.
        self.assertEqual(
            self.counted(self.SWING, {}, 50, (1, 0, 200), kinds={3: NN, 7: NN}, ways={4: True, 10: False}),
            (11, 10))

    def test_a_leave_is_no_failure(self):
        # Room for the turn alone: they leave at once.
        for patience in (0, 1, 20):
            self.assertEqual(self.counted(self.SWING, {}, 50, (2, patience, 1)), (1, 0))

    def test_by_an_is(self):
        # 0 top, 1 c, 2 num, 3 less, 4 unless, 5.. up c, 9 a, 10 a, 11 add, 12 say, and a and b change places
        program = row(("while", ("less", C, number(6)), row(
            up("c"), ("say", ("add", A, A)), ("set", "d", A), ("set", "a", B), ("set", "b", name("d")))))
        # a is a number where c is even. Made at 1 by the number at 0; 2 well, 3 fails, 4 well, 5 fails,
        # 6 fails by the while's own unless.
        self.assertEqual(self.counted(program, {"b": "x"}, 50, (2, 9, 200)), (1, 3))
        # patience 0: 3 fails, and goes on with the plain sign, which is noted: a text. 4 is the first
        # time, 5 the second: made by the number at 4; 6 fails.
        self.assertEqual(self.counted(program, {"b": "x"}, 50, (2, 0, 200)), (2, 2))


class Room(Machines):
    LOOP = TellsTheSame.LOOP

    def test_too_small_for_the_unless(self):
        # turn, get, num, is, less: five rows ahead of the so.
        for room in range(1, 6):
            self.assertEqual(self.counted(self.LOOP, {}, 50, (2, 0, room)), (1, 0), room)

    def test_large_enough_for_the_unless(self):
        for room in (6, 7, 8, 9, 200):
            self.assertEqual(self.counted(self.LOOP, {}, 50, (2, 0, room)), (1, 1), room)


class Hints(Machines):
    LOOP = TellsTheSame.LOOP
    RIGHT = {3: NN, 9: NN}

    def test_right_ones(self):
        self.assertEqual(self.counted(self.LOOP, {}, 50, (1, 0, 200), kinds=self.RIGHT, ways={4: True}),
                         (1, 1))

    def test_some(self):
        # Without the way of the unless they leave there; without the kinds of the add they leave
        # there, and the guess of the unless fails at the end.
        self.assertEqual(self.counted(self.LOOP, {}, 50, (1, 0, 200), kinds=self.RIGHT), (1, 0))
        self.assertEqual(self.counted(self.LOOP, {}, 50, (1, 0, 200), kinds={3: NN}, ways={4: True}), (1, 1))

    def test_wrong_ways(self):
        # Made for the end of the while: they fail in the turns from the second to the tenth one.
        self.assertEqual(self.counted(self.LOOP, {}, 50, (1, 20, 200), kinds=self.RIGHT, ways={4: False}),
                         (1, 9))

    def test_wrong_kinds(self):
        # A text beside the number 10 can't be guessed: they leave at the less.
        self.assertEqual(self.counted(self.LOOP, {}, 50, (1, 20, 200), kinds={3: TT, 9: TT}, ways={4: True}),
                         (1, 0))
        # 0 top, 1 a, 2 b, 3 less, 4 unless, 5 to 8 up a
        program = row(("while", ("less", A, B), row(up("a"))))
        self.assertEqual(self.counted(program, {"b": 9}, 50, (1, 20, 200), kinds={3: TT}, ways={4: True}),
                         (1, 9))
        self.assertEqual(self.counted(program, {"b": 9}, 50, (1, 20, 200), kinds={3: NN}, ways={4: True}),
                         (1, 1))

    def test_they_hold_until_something_is_noted_at_their_place(self):
        # What is noted in the first turn takes the stead of the wrong ones.
        for kinds, ways in (({3: TT, 9: TT}, {4: False}), ({3: TN}, {4: True}), ({}, {4: False})):
            self.assertEqual(self.counted(self.LOOP, {}, 50, (2, 0, 200), kinds=kinds, ways=ways), (1, 1))

    def test_where_nothing_is_noted_they_hold(self):
        # 0 top, 1 a, 2 num 10, 3 less, 4 unless, 5 to 8 up a, 9 a, 10 num 5, 11 less, 12 unless 16,
        # 13 text, 14 say, 15 go 18, 16 b, 17 say, 18 go 0
        program = row(("while", ("less", A, number(10)), row(
            up("a"), ("if", ("less", A, number(5)), row(("say", text("low"))), row(("say", ("add", B, B)))))))
        # Made at a = 2 by the way of yes; the first one that fails is at 4, where a gets 5.
        self.assertEqual(self.counted(program, {}, 50, (3, 20, 200)), (1, 7))
        # The if is noted already; what was handed in for its other row is not come to yet.
        self.assertEqual(self.counted(program, {}, 50, (3, 20, 200), kinds={18: TT}, ways={12: False}),
                         (1, 7))
        # Made at once for the way of no: at 1, 2, 3 the if fails, at 4 to 9 the add, at 10 the while.
        self.assertEqual(self.counted(program, {}, 50, (1, 20, 200), kinds={3: NN, 7: NN, 11: NN, 18: TT},
                                      ways={4: True, 12: False}), (1, 10))
        self.assertEqual(self.counted(program, {}, 50, (1, 20, 200), kinds={3: NN, 7: NN, 11: NN, 18: NN},
                                      ways={4: True, 12: False}), (1, 4))

    def test_at_places_of_other_rows_they_mean_nothing(self):
        kinds = {place: TT for place in range(-3, 40) if place not in (3, 9)}
        ways = {place: False for place in range(-3, 40) if place != 4}
        self.assertEqual(self.counted(self.LOOP, {}, 50, (1, 0, 200), kinds=kinds, ways=ways), (1, 0))
        self.assertEqual(self.counted(self.LOOP, {}, 50, (1, 0, 200), kinds={**kinds, **self.RIGHT},
                                      ways={**ways, 4: True}), (1, 1))

    def test_none_at_all(self):
        self.assertEqual(self.counted(self.LOOP, {}, 50, (1, 0, 200), kinds={}, ways={}), (1, 0))

    def test_what_is_handed_in_is_neither_kept_nor_changed(self):
        kinds, ways = {3: NN, 9: NN, 50: TT}, {4: True, 3: False}
        machine = Machine(coded(self.LOOP), {}, 50, (1, 0, 200))
        machine.hint(kinds, ways)
        kinds[3], kinds[9], ways[4] = TT, TT, False
        machine.finish()
        self.assertEqual(machine.counts(), (1, 1))
        self.assertEqual((kinds, ways), ({3: TT, 9: TT, 50: TT}, {4: False, 3: False}))


class WhatIsGiven(Machines):
    LOOP = TellsTheSame.LOOP

    def test_ahead_of_finish(self):
        machine = Machine(coded(self.LOOP), {"a": 4, "b": "x"}, 50, (2, 0, 200))
        for _ in range(2):
            self.assertEqual((machine.told(), machine.names_now(), machine.counts()),
                             ([], {"a": 4, "b": "x"}, (0, 0)))
            machine.told().append(1)
            machine.names_now()["a"] = "other"
        machine.hint({}, {})
        self.assertEqual((machine.told(), machine.names_now(), machine.counts()),
                         ([], {"a": 4, "b": "x"}, (0, 0)))
        machine.finish()
        self.assertEqual((machine.told(), machine.names_now()), ([4, 5, 6, 7, 8, 9], {"a": 10, "b": "x"}))

    def test_kinds_of_values(self):
        machine = Machine(coded(self.LOOP), {}, 50, (2, 0, 200))
        self.assertIs(type(machine.finish()), tuple)
        self.assertEqual([type(thing) for thing in (machine.told(), machine.names_now(), machine.counts())],
                         [list, dict, tuple])
        self.assertEqual([type(count) for count in machine.counts()], [int, int])

    def test_what_was_given_can_be_changed(self):
        machine = Machine(coded(self.LOOP), {"a": 8}, 50, (2, 0, 200))
        machine.finish()
        machine.told().append("other")
        machine.names_now()["a"] = "other"
        machine.names_now()["g"] = "other"
        self.assertEqual((machine.told(), machine.names_now()), ([8, 9], {"a": 10}))

    def test_what_was_given_ahead_stays(self):
        machine = Machine(coded(self.LOOP), {"a": 8}, 50, (2, 0, 200))
        told, names, counts = machine.told(), machine.names_now(), machine.counts()
        machine.finish()
        self.assertEqual((told, names, counts), ([], {"a": 8}, (0, 0)))

    def test_the_names_handed_in(self):
        names = {"a": 8}
        machine = Machine(coded(self.LOOP), names, 50, (2, 0, 200))
        names["a"] = 3
        names["b"] = 5
        self.assertEqual(machine.finish(), ("done",))
        self.assertEqual((names, machine.names_now()), ({"a": 3, "b": 5}, {"a": 10}))

    def test_finish_again(self):
        machine = Machine(coded(self.LOOP), {}, 5, (2, 0, 200))
        for _ in range(3):
            self.assertEqual(machine.finish(), ("dry",))
            self.assertEqual((machine.told(), machine.names_now()), ([0, 1, 2, 3, 4], {"a": 5}))
            self.assertEqual(machine.counts(), (1, 0))

    def test_two_machines_of_the_same_rows(self):
        code, names = coded(self.LOOP), {"a": 2}
        one = Machine(code, names, 50, (2, 0, 200))
        two = Machine(code, names, 50, (11, 0, 200))
        two.hint({3: TT}, {4: False})
        self.assertEqual(one.finish(), ("done",))
        self.assertEqual((two.told(), two.names_now(), two.counts()), ([], {"a": 2}, (0, 0)))
        self.assertEqual(two.finish(), ("done",))
        self.assertEqual((one.told(), one.counts()), ([2, 3, 4, 5, 6, 7, 8, 9], (1, 1)))
        self.assertEqual((two.told(), two.counts()), ([2, 3, 4, 5, 6, 7, 8, 9], (0, 0)))
        three = Machine(code, names, 50, (1, 0, 200))
        self.assertEqual((three.finish(), three.counts()), (("done",), (1, 0)))


class ManyPrograms(Machines):
    def check(self, program, names, most, limits, hints):
        """The machine tells what plain rows tell, and counts what the slow one does."""
        code, given = coded(program), dict(names)
        machine, slow = Machine(code, names, most, limits), SlowMachine(code, names, most, limits)
        if hints:
            machine.hint(*hints)
            slow.hint(*hints)
        last = machine.finish()
        self.assertEqual((machine.told(), last, machine.names_now()), walked(code, names, most))
        self.assertEqual(slow.finish(), last)
        self.assertEqual(machine.counts(), (slow.all_made, slow.all_fell))
        self.assertEqual(names, given)
        return last[0], machine.counts()

    def test_any_programs(self):
        for seed in range(150):
            self.check(Maker(seed).row(5), {"a": 1, "b": "x"}, 30, (1 + seed % 3, seed % 2, 50), None)

    def limits(self, chance):
        return (chance.choice((1, 1, 2, 3, 7, 40)), chance.choice((0, 0, 1, 3, 20)),
                chance.choice((1, 2, 5, 12, 40, 200)))

    def test_programs_that_run_a_while(self):
        ends = {"done": 0, "dry": 0, "mixed": 0}
        for seed in range(400):
            maker, chance = LivelyMaker(seed), random.Random(seed)
            program, names = maker.program(), maker.names()
            hints = guessed(coded(program), chance) if seed % 2 else None
            most = chance.choice((0, 5, 60, 300))
            ends[self.check(program, names, most, self.limits(chance), hints)[0]] += 1
        self.assertGreater(min(ends.values()), 40, ends)

    def test_programs_whose_guesses_fail(self):
        ends, made, fell, anew = {"done": 0, "dry": 0, "mixed": 0}, 0, 0, 0
        for seed in range(400):
            maker, chance = RestlessMaker(seed), random.Random(seed)
            program, names = maker.program(), maker.names()
            hints = guessed(coded(program), chance) if seed % 2 else None
            most = chance.choice((10, 60, 300))
            last, counts = self.check(program, names, most, self.limits(chance), hints)
            ends[last] += 1
            made += counts[0]
            fell += counts[1]
            anew += counts[0] > sum(here == ("top",) for here in coded(program))
        self.assertGreater(min(ends.values()), 10, ends)
        self.assertGreater(min(made, fell), 500)
        self.assertGreater(anew, 30)

    def test_right_guesses(self):
        """Guesses from a whole run ahead of this one."""
        for seed in range(100):
            maker = RestlessMaker(seed)
            program, names = maker.program(), maker.names()
            code, notes, state = coded(program), Notes({}, {}), State(names, 300)
            while state.last is None:
                notes.see(code, state)
                do_row(code, state)
            self.check(program, names, 300, (1, 2, 200), (notes.kinds, notes.ways))


if __name__ == "__main__":
    unittest.main()
