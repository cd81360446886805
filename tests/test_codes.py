"""Points [4] and [6]: programs, and their rows place by place."""

import unittest

from helper import Maker, all_tuples, number, row
from hunch.codes import coded

NOTHING = ("row", ())
A = ("name", "a")
SAY_A = ("say", A)


class Coded(unittest.TestCase):
    def codes(self, parts, *wanted):
        """The program of these parts has these rows, and the end."""
        got = coded(row(*parts))
        self.assertEqual(got, wanted + (("end",),))
        self.assertTrue(all_tuples(got))


class Expressions(Coded):
    def test_num(self):
        self.codes([("say", number(0))], ("num", 0), ("say",))
        self.codes([("say", number(9999))], ("num", 9999), ("say",))

    def test_text(self):
        self.codes([("say", ("text", ""))], ("text", ""), ("say",))
        self.codes([("say", ("text", "hello"))], ("text", "hello"), ("say",))

    def test_a_text_that_reads_like_a_sign(self):
        self.codes([("say", ("text", "add"))], ("text", "add"), ("say",))

    def test_name(self):
        for name in "abcdefgh":
            self.codes([("say", ("name", name))], ("name", name), ("say",))

    def test_each_sign(self):
        for sign in ("add", "sub", "less", "same"):
            self.codes([("say", (sign, number(1), ("text", "x")))],
                       ("num", 1), ("text", "x"), (sign,), ("say",))

    def test_the_first_one_within(self):
        self.codes([("say", ("sub", ("add", number(1), number(2)), number(3)))],
                   ("num", 1), ("num", 2), ("add",), ("num", 3), ("sub",), ("say",))

    def test_the_second_one_within(self):
        self.codes([("say", ("less", number(1), ("same", number(2), A)))],
                   ("num", 1), ("num", 2), ("name", "a"), ("same",), ("less",), ("say",))

    def test_five_deep(self):
        deep = ("add", ("sub", ("less", ("same", A, number(1)), number(2)), number(3)), number(4))
        self.codes([("say", deep)],
                   ("name", "a"), ("num", 1), ("same",), ("num", 2), ("less",),
                   ("num", 3), ("sub",), ("num", 4), ("add",), ("say",))

    def test_five_deep_to_the_second(self):
        deep = ("add", number(4), ("sub", number(3), ("less", number(2), ("same", number(1), A))))
        self.codes([("say", deep)],
                   ("num", 4), ("num", 3), ("num", 2), ("num", 1), ("name", "a"),
                   ("same",), ("less",), ("sub",), ("add",), ("say",))


class Statements(Coded):
    def test_say(self):
        self.codes([SAY_A], ("name", "a"), ("say",))

    def test_set(self):
        self.codes([("set", "h", number(5))], ("num", 5), ("set", "h"))
        self.codes([("set", "b", ("add", A, number(5)))],
                   ("name", "a"), ("num", 5), ("add",), ("set", "b"))

    def test_program_without_parts(self):
        self.assertEqual(coded(NOTHING), (("end",),))

    def test_parts_in_their_order(self):
        self.codes([("say", number(1)), ("set", "b", number(2)), ("say", number(3))],
                   ("num", 1), ("say",), ("num", 2), ("set", "b"), ("num", 3), ("say",))

    def test_the_same_part_twice(self):
        self.codes([SAY_A, SAY_A], ("name", "a"), ("say",), ("name", "a"), ("say",))


class Ifs(Coded):
    def test_parts_in_both_rows(self):
        self.codes([("if", A, row(("say", number(1))), row(("say", number(2))))],
                   ("name", "a"), ("unless", 5), ("num", 1), ("say",), ("go", 7),
                   ("num", 2), ("say",))

    def test_parts_in_the_first_row_only(self):
        self.codes([("if", A, row(("say", number(1))), NOTHING)],
                   ("name", "a"), ("unless", 5), ("num", 1), ("say",), ("go", 5))

    def test_parts_in_the_second_row_only(self):
        self.codes([("if", A, NOTHING, row(("say", number(2))))],
                   ("name", "a"), ("unless", 3), ("go", 5), ("num", 2), ("say",))

    def test_parts_in_neither_row(self):
        self.codes([("if", A, NOTHING, NOTHING)],
                   ("name", "a"), ("unless", 3), ("go", 3))

    def test_not_at_the_beginning(self):
        self.codes([SAY_A, ("if", ("less", A, number(9)), row(SAY_A, SAY_A), row(SAY_A)), SAY_A],
                   ("name", "a"), ("say",),
                   ("name", "a"), ("num", 9), ("less",), ("unless", 11),
                   ("name", "a"), ("say",), ("name", "a"), ("say",), ("go", 13),
                   ("name", "a"), ("say",),
                   ("name", "a"), ("say",))


class Whiles(Coded):
    def test_on_its_own(self):
        self.codes([("while", A, row(("say", number(1))))],
                   ("top",), ("name", "a"), ("unless", 6), ("num", 1), ("say",), ("go", 0))

    def test_empty_row(self):
        self.codes([("while", A, NOTHING)],
                   ("top",), ("name", "a"), ("unless", 4), ("go", 0))

    def test_not_at_the_beginning(self):
        self.codes([SAY_A, ("while", ("less", A, number(9)), row(SAY_A)), SAY_A],
                   ("name", "a"), ("say",),
                   ("top",), ("name", "a"), ("num", 9), ("less",), ("unless", 10),
                   ("name", "a"), ("say",), ("go", 2),
                   ("name", "a"), ("say",))

    def test_one_behind_another(self):
        self.codes([("while", A, NOTHING), ("while", A, NOTHING)],
                   ("top",), ("name", "a"), ("unless", 4), ("go", 0),
                   ("top",), ("name", "a"), ("unless", 8), ("go", 4))


class Within(Coded):
    def test_if_in_while(self):
        self.codes([("while", A, row(("if", A, row(SAY_A), row(("set", "a", number(0))))))],
                   ("top",), ("name", "a"), ("unless", 11),
                   ("name", "a"), ("unless", 8), ("name", "a"), ("say",), ("go", 10),
                   ("num", 0), ("set", "a"),
                   ("go", 0))

    def test_while_in_both_rows_of_an_if(self):
        self.codes([("if", A, row(("while", A, NOTHING)), row(("while", A, NOTHING)))],
                   ("name", "a"), ("unless", 7),
                   ("top",), ("name", "a"), ("unless", 6), ("go", 2),
                   ("go", 11),
                   ("top",), ("name", "a"), ("unless", 11), ("go", 7))

    def test_whiles_five_deep(self):
        body = row(SAY_A)
        for _ in range(5):
            body = row(("while", A, body))
        self.assertEqual(coded(body), (
            ("top",), ("name", "a"), ("unless", 22),
            ("top",), ("name", "a"), ("unless", 21),
            ("top",), ("name", "a"), ("unless", 20),
            ("top",), ("name", "a"), ("unless", 19),
            ("top",), ("name", "a"), ("unless", 18),
            ("name", "a"), ("say",),
            ("go", 12), ("go", 9), ("go", 6), ("go", 3), ("go", 0), ("end",)))

    def test_ifs_five_deep_in_the_first_row(self):
        body = row(SAY_A)
        for _ in range(5):
            body = row(("if", A, body, NOTHING))
        self.assertEqual(coded(body), (
            ("name", "a"), ("unless", 17), ("name", "a"), ("unless", 16),
            ("name", "a"), ("unless", 15), ("name", "a"), ("unless", 14),
            ("name", "a"), ("unless", 13), ("name", "a"), ("say",),
            ("go", 13), ("go", 14), ("go", 15), ("go", 16), ("go", 17), ("end",)))

    def test_ifs_five_deep_in_the_second_row(self):
        body = row(SAY_A)
        for _ in range(5):
            body = row(("if", A, NOTHING, body))
        self.assertEqual(coded(body), (
            ("name", "a"), ("unless", 3), ("go", 17),
            ("name", "a"), ("unless", 6), ("go", 17),
            ("name", "a"), ("unless", 9), ("go", 17),
            ("name", "a"), ("unless", 12), ("go", 17),
            ("name", "a"), ("unless", 15), ("go", 17),
            ("name", "a"), ("say",), ("end",)))

    def test_whiles_and_ifs_five_deep(self):
        program = row(("while", A, row(("if", A, row(("while", A, row(
            ("if", A, NOTHING, row(("while", A, row(SAY_A))))))), row(SAY_A)))))
        self.assertEqual(coded(program), (
            ("top",), ("name", "a"), ("unless", 22),
            ("name", "a"), ("unless", 19),
            ("top",), ("name", "a"), ("unless", 18),
            ("name", "a"), ("unless", 11), ("go", 17),
            ("top",), ("name", "a"), ("unless", 17), ("name", "a"), ("say",), ("go", 11),
            ("go", 5),
            ("go", 21),
            ("name", "a"), ("say",),
            ("go", 0), ("end",)))


class BeyondTheLimits(Coded):
    def test_deep_expression(self):
        deep = A
        for n in range(30):
            deep = ("add", deep, number(n))
        wanted = [("name", "a")]
        for n in range(30):
            wanted += [("num", n), ("add",)]
        self.codes([("say", deep)], *wanted, ("say",))

    def test_deep_whiles(self):
        body = NOTHING
        for _ in range(30):
            body = row(("while", A, body))
        rows = coded(body)
        self.assertEqual(len(rows), 30 * 4 + 1)
        self.assertEqual(rows[2], ("unless", 120))
        self.assertEqual(rows[119], ("go", 0))

    def test_large_number_and_long_text(self):
        self.codes([("say", number(123456)), ("say", ("text", "z" * 40))],
                   ("num", 123456), ("say",), ("text", "z" * 40), ("say",))

    def test_many_parts(self):
        self.codes([SAY_A] * 500, *([("name", "a"), ("say",)] * 500))


class Decoder:
    """Reads rows back to the program; fails where a place is not as told."""

    def __init__(self, rows):
        self.rows = rows
        self.place = 0

    def program(self):
        read = self.parts(len(self.rows) - 1)
        assert self.rows[self.place] == ("end",)
        return read

    def parts(self, behind):
        """The statements up to a place; a row of them."""
        found = []
        while self.place < behind:
            found.append(self.statement())
        assert self.place == behind
        return ("row", tuple(found))

    def statement(self):
        top = self.place
        looping = self.rows[top] == ("top",)
        self.place += looping
        value = self.expression()
        here = self.rows[self.place]
        self.place += 1
        if here[0] != "unless":
            return ("say", value) if here == ("say",) else ("set", here[1], value)
        first = self.parts(here[1] - 1)
        go = self.rows[self.place]
        assert go[0] == "go"
        self.place += 1
        if looping:
            assert go == ("go", top)
            return ("while", value, first)
        return ("if", value, first, self.parts(go[1]))

    def expression(self):
        half = []
        while self.rows[self.place][0] not in ("say", "set", "unless"):
            here = self.rows[self.place]
            if len(here) == 1:
                second = half.pop()
                half.append((here[0], half.pop(), second))
            else:
                half.append(here)
            self.place += 1
        assert len(half) == 1
        return half[0]


class ManyPrograms(unittest.TestCase):
    def test_rows_tell_the_program(self):
        for seed in range(300):
            program = Maker(seed).row(5)
            rows = coded(program)
            self.assertTrue(all_tuples(rows))
            self.assertEqual(Decoder(rows).program(), program)

    def test_asked_again_they_are_the_same(self):
        programs = [Maker(seed).row(5) for seed in range(50)]
        first = [coded(program) for program in programs]
        again = [coded(program) for program in programs]
        self.assertEqual(again, first)
        self.assertEqual(programs, [Maker(seed).row(5) for seed in range(50)])


if __name__ == "__main__":
    unittest.main()
