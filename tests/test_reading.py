"""Points [4] and [13]: programs as texts, and back; any other text is refused."""

import random
import unittest

from helper import LivelyMaker, Maker, RestlessMaker, all_tuples, name, number, row, text
from hunch.errors import HunchError, Unread
from hunch.reading import program_text, read_program

A, B = name("a"), name("b")
SAY_A = ("say", A)
SIGNS = (("add", "+"), ("sub", "-"), ("less", "<"), ("same", "="))


def lines(*parts):
    return "\n".join(parts)


def nested(word, deep, inner):
    """Whiles or ifs that lie so deep within one another."""
    for _ in range(deep):
        inner = row((word, A, inner) if word == "while" else (word, A, inner, row()))
    return inner


def chain(deep, side=1):
    """An expression that is so deep, on its first or its second side."""
    made = A
    for _ in range(deep - 1):
        made = ("add", made, B) if side == 1 else ("add", B, made)
    return made


def full(deep):
    """An expression that is so deep on all sides."""
    return A if deep == 1 else ("less", full(deep - 1), full(deep - 1))


class Texts(unittest.TestCase):
    def both(self, written, *parts):
        """The program of these parts is written so, and read back."""
        self.assertEqual(program_text(row(*parts)), written)
        got = read_program(written)
        self.assertEqual(got, row(*parts))
        self.assertTrue(all_tuples(got))

    def refused(self, *texts):
        for written in texts:
            with self.assertRaises(Unread, msg=repr(written)) as caught:
                read_program(written)
            self.assertIs(type(caught.exception), Unread)
            self.assertIsInstance(caught.exception, HunchError)


class Statements(Texts):
    def test_none(self):
        self.both("")

    def test_say(self):
        self.both("say a", SAY_A)

    def test_set(self):
        for x in "abcdefgh":
            self.both(f"set {x} 5", ("set", x, number(5)))
            self.both(f"set h {x}", ("set", "h", name(x)))

    def test_one_behind_another(self):
        self.both("say a\nset b 5\nsay b", SAY_A, ("set", "b", number(5)), ("say", B))

    def test_while(self):
        self.both("while a\n  say a\n  set a b\nsay b",
                  ("while", A, row(SAY_A, ("set", "a", B))), ("say", B))

    def test_while_without_parts(self):
        self.both("while a", ("while", A, row()))
        self.both("while a\nsay b", ("while", A, row()), ("say", B))
        self.both("while a\nwhile b", ("while", A, row()), ("while", B, row()))

    def test_if_without_else(self):
        self.both("if a\n  say a\nsay b", ("if", A, row(SAY_A), row()), ("say", B))

    def test_if_with_else(self):
        self.both("if a\n  say a\n  say b\nelse\n  set a 5\n  say b\nsay b",
                  ("if", A, row(SAY_A, ("say", B)), row(("set", "a", number(5)), ("say", B))), ("say", B))

    def test_if_without_parts(self):
        self.both("if a", ("if", A, row(), row()))
        self.both("if a\nif b", ("if", A, row(), row()), ("if", B, row(), row()))

    def test_if_with_else_alone(self):
        self.both("if a\nelse\n  say b", ("if", A, row(), row(("say", B))))

    def test_each_else_is_of_the_if_that_is_as_deep(self):
        inner, no = ("if", B, row(SAY_A), row()), row(("say", B))
        self.both("if a\n  if b\n    say a\nelse\n  say b", ("if", A, row(inner), no))
        inner = ("if", B, row(SAY_A), no)
        self.both("if a\n  if b\n    say a\n  else\n    say b", ("if", A, row(inner), row()))
        self.both("if a\n  if b\n    say a\n  else\n    say b\nelse\n  say b", ("if", A, row(inner), no))
        self.both("if a\nelse\n  if b\n    say a\n  else\n    say b", ("if", A, row(), row(inner)))
        self.both("if a\nif a\nelse\n  say b", ("if", A, row(), row()), ("if", A, row(), no))

    def test_else_behind_a_while_within_the_if(self):
        self.both("if a\n  while b\n    say a\nelse\n  while a\n    say b\nsay a",
                  ("if", A, row(("while", B, row(SAY_A))), row(("while", A, row(("say", B))))), SAY_A)

    def test_many_levels_left_at_once(self):
        self.both("while a\n  if a\n    while a\n      say a\nsay b",
                  ("while", A, row(("if", A, row(("while", A, row(SAY_A))), row()))), ("say", B))


class Expressions(Texts):
    def test_numbers(self):
        for n in (0, 1, 9, 10, 99, 100, 305, 999, 1000, 9999):
            self.both(f"say {n}", ("say", number(n)))

    def test_texts(self):
        for t in ("", "a", "z", "add", "else", "abcdefghijkl", "zzzzzzzzzzzz"):
            self.both(f"say '{t}", ("say", text(t)))

    def test_the_empty_text_within_others(self):
        self.both("say + ' '", ("say", ("add", text(""), text(""))))
        self.both("set a '\nif '\n  say '", ("set", "a", text("")), ("if", text(""), row(("say", text(""))), row()))

    def test_names(self):
        for x in "abcdefgh":
            self.both(f"while {x}", ("while", name(x), row()))

    def test_signs(self):
        for sign, mark in SIGNS:
            self.both(f"say {mark} a 5", ("say", (sign, A, number(5))))
            self.both(f"set b {mark} 'x b", ("set", "b", (sign, text("x"), B)))

    def test_signs_within_signs(self):
        self.both("say + - a 1 < b = 'x '",
                  ("say", ("add", ("sub", A, number(1)), ("less", B, ("same", text("x"), text(""))))))
        self.both("if - + - a b a b\n  say a", ("if", ("sub", ("add", ("sub", A, B), A), B), row(SAY_A), row()))

    def test_in_each_statement(self):
        sum_of = ("add", A, B)
        self.both("say + a b\nset a + a b\nif + a b\nwhile + a b", ("say", sum_of), ("set", "a", sum_of),
                  ("if", sum_of, row(), row()), ("while", sum_of, row()))


class Depths(Texts):
    def test_expressions_up_to_five_deep(self):
        for deep in range(1, 6):
            for made in (chain(deep, 1), chain(deep, 2), full(deep)):
                self.both(program_text(row(("say", made))), ("say", made))
                self.both(program_text(row(("while", made, row()))), ("while", made, row()))
        self.assertEqual(program_text(row(("say", chain(5, 1)))), "say + + + + a b b b b")
        self.assertEqual(program_text(row(("say", chain(5, 2)))), "say + b + b + b + b a")

    def test_expressions_that_are_deeper(self):
        self.refused("say + + + + + a b b b b b", "say + b + b + b + b + b a")
        for deep in (6, 7, 8):
            for made in (chain(deep, 1), chain(deep, 2), full(deep)):
                for part in (("say", made), ("set", "a", made), ("if", made, row(), row()), ("while", made, row())):
                    self.refused(program_text(row(part)))
        self.refused(program_text(row(("say", ("add", A, chain(5))))),
                     program_text(row(("say", ("add", chain(5), A)))))

    def test_expressions_that_are_very_deep(self):
        self.refused("say " + "+ " * 100000 + "a", "say " + "+ " * 100000 + "a" + " a" * 100000)

    def test_whiles_and_ifs_up_to_five_deep(self):
        for word in ("while", "if"):
            for deep in range(1, 6):
                program = nested(word, deep, row(SAY_A, ("set", "b", A)))
                self.both(program_text(program), *program[1])
                program = nested(word, deep, row())
                self.both(program_text(program), *program[1])
        self.both("while a\n  if a\n    while a\n      if a\n        while a\n          say a",
                  *nested("while", 1, nested("if", 1, nested("while", 1, nested(
                      "if", 1, nested("while", 1, row(SAY_A))))))[1])

    def test_whiles_and_ifs_that_lie_deeper(self):
        for word in ("while", "if"):
            for inner in ("while", "if"):
                for deep in (5, 6, 7):
                    self.refused(program_text(nested(word, deep, nested(inner, 1, row(SAY_A)))))
                    self.refused(program_text(nested(word, deep, nested(inner, 1, row()))))

    def test_within_an_else(self):
        program = row()
        for deep in range(1, 8):
            program = row(("if", A, row(), row(*program[1], ("say", B))))
            if deep <= 5:
                self.both(program_text(program), *program[1])
            else:
                self.refused(program_text(program))

    def test_five_deep_one_behind_another(self):
        program = row(*nested("while", 5, row(SAY_A))[1], *nested("if", 5, row(SAY_A))[1], SAY_A)
        self.both(program_text(program), *program[1])

    def test_what_is_deeper_is_written(self):
        self.assertEqual(program_text(nested("while", 7, row(SAY_A))),
                         lines(*["  " * deep + "while a" for deep in range(7)], "  " * 7 + "say a"))
        self.assertEqual(program_text(row(("say", chain(7)))), "say + + + + + + a b b b b b b")


class Lines(Texts):
    def test_sixty(self):
        program = row(*[("say", number(n)) for n in range(60)])
        self.both(lines(*[f"say {n}" for n in range(60)]), *program[1])

    def test_sixty_one_and_more(self):
        for many in (61, 62, 100, 5000):
            program = row(*[("say", number(1))] * many)
            written = program_text(program)
            self.assertEqual(written, lines(*["say 1"] * many))
            self.refused(written)

    def test_each_line_counts(self):
        """Ifs and elses as well: four lines each."""
        part = ("if", A, row(SAY_A), row(("say", B)))
        self.both(lines(*["if a\n  say a\nelse\n  say b"] * 15), *[part] * 15)
        self.refused(program_text(row(*[part] * 15, SAY_A)), program_text(row(SAY_A, *[part] * 15)))

    def test_empty_lines(self):
        self.refused("\n", "\n\n", "\nsay a", "say a\n\nsay b", "while a\n\n  say a", "if a\n  say a\n\nelse\n  say b")

    def test_a_line_feed_at_the_end(self):
        self.refused("say a\n", "say a\nsay b\n", "while a\n", "while a\n  say a\n", "say '\n", "say a\n\n")

    def test_lines_of_blanks(self):
        self.refused(" ", "  ", "    ", "say a\n  ", "while a\n  ", "  \nsay a", "while a\n  \n  say a")

    def test_other_ends_of_lines(self):
        for end in ("\r", "\r\n", "\x0b", "\x0c", "\x1c", "\x1d", "\x1e", "\x85", "\u2028", "\u2029", ";", "\0"):
            self.refused(f"say a{end}say b", f"say a{end}", f"say '{end}say a", f"while a{end}  say a")


class Blanks(Texts):
    def test_too_many_ahead(self):
        self.refused(" say a", "  say a", "    say a", "say a\n  say b", "say a\n say b", "set a 5\n  say a",
                     "while a\n   say a", "while a\n    say a", "while a\n  say a\n    say a",
                     "if a\n  say a\nelse\n    say a", "if a\n  say a\n  else\n    say a",
                     "if a\n  say a\n else\n  say a", "while a\n  while b\n      say a",
                     "while a\n  say a\n say b", "while a\n  say a\n   say b")

    def test_too_few_ahead(self):
        self.refused("while a\n say a", "if a\n say a", "if a\nelse\nsay b", "if a\nelse\n say b",
                     "while a\n  if a\n   say a", "while a\n  if a\n    say a\nelse\n  say b",
                     "if a\n  if b\n    say a\n  else\n   say b")

    def test_too_many_within(self):
        self.refused("say  a", "say + a  b", "say +  a b", "set  a 5", "set a  5", "while  a", "if  a", "say  ' '",
                     "say a  ", "say a ", "set a 5 ", "while a ", "if a ", "if a \n  say a", "say ' ",
                     "if a\n  say a\nelse \n  say b", "say + a b ", "if a\nelse  \n  say b")

    def test_too_few_within(self):
        self.refused("saya", "say+ a b", "say +a b", "say + ab", "seta 5", "set a5", "set ab", "whilea", "ifa",
                     "say'", "say +'x 'y", "say 5a", "say a5", "say'x", "say a'")

    def test_tabs_and_others(self):
        for blank in ("\t", "\u00a0", "\u3000", "\u2003", "\x1f", "_"):
            self.refused(f"say{blank}a", f"say +{blank}a b", f"while a\n{blank}say a", f"while a\n{blank * 2}say a",
                         f"say a{blank}", f"{blank}say a", f"{blank}", f"say a\n{blank}")


class OtherTexts(Texts):
    def test_elses(self):
        self.refused("else", "else\n  say a", "say a\nelse\n  say b", "while a\nelse\n  say b",
                     "while a\n  say a\nelse\n  say b", "if a\n  say a\nelse", "if a\nelse",
                     "if a\n  say a\nelse\nsay b",
                     "if a\nelse\n  say a\nelse\n  say b", "if a\nsay b\nelse\n  say a", "if a\n  else\n    say b",
                     "if a\nelse a\n  say b", "if a\nelse if b\n  say a", "if a\n  say a\nelse\nelse\n  say b",
                     "if a\nwhile b\nelse\n  say a", "if a\n  if b\n  else\nelse\n  say a", "else if a")

    def test_words(self):
        self.refused("a", "5", "'", "'a", "+", "+ a b", "Say a", "SAY a", "says a", "tell a", "put a 5", "row",
                     "row\n  say a", "go 5", "end", "# a", "say a # b", "pass", "say: a", "if a:\n  say a", "If a",
                     "while\n  say a", "WHILE a", "until a", "\ufeffsay a", "say a\0", "x")

    def test_expressions_that_are_lacking_or_too_many(self):
        self.refused("say", "say ", "set", "set ", "set a", "set a ", "if", "if ", "while", "while ", "say +", "say + ",
                     "say + a", "say + a ", "say a b", "say + a b a", "set a 5 5", "while a b", "if a b", "say + + a b",
                     "set 5", "set + a b", "say + a + b", "say = =", "if +\n  say a", "if a 'x")

    def test_names(self):
        self.refused("say i", "say z", "say A", "say aa", "say ab", "say abcdefgh", "set i 5", "set A 5", "set aa 5",
                     "set ab 5", "set 5 5", "set 'a 5", "set abcdefgh 5", "set  5", "say a.", "say \u0430",
                     "say \u00e4",
                     "set \u0430 5", "while i", "say $a", "set = a")

    def test_numbers_with_a_nought_ahead(self):
        self.refused("say 00", "say 01", "say 007", "say 0000", "say 0999", "say 00000", "say 09999", "set a 01",
                     "say + 1 02")

    def test_numbers_beyond_9999(self):
        self.refused("say 10000", "say 10006", "say 10007", "say 99999", "say 123456789", "say " + "9" * 5000,
                     "set a 10000", "say + 1 10000", "say 1" + "0" * 20000)

    def test_numbers_written_otherwise(self):
        self.refused("say -1", "say +1", "say -0", "say 1.0", "say 1.", "say .5", "say 1_0", "say 1e3", "say 0x1",
                     "say 0b1", "say 0o7", "say 1,0", "say \u0663", "say \u00b2", "say \u00bd", "say \uff11",
                     "say 1\u0663",
                     "say \u2160", "say 5 ", "say None", "say True", "say \u0967\u0968")

    def test_texts_of_more_than_12_letters(self):
        self.refused("say '" + "a" * 13, "say 'abcdefghijklm", "say '" + "z" * 100, "set a '" + "a" * 13,
                     "say + 'a '" + "a" * 13, "say '" + "a" * 100000)

    def test_texts_of_other_letters(self):
        self.refused("say 'A", "say 'aB", "say 'a1", "say '1", "say 'a'", "say ''", "say 'a b", "say 'a_b", "say 'a-b",
                     "say '\u00e4", "say '\u0430", "say 'a\u00df", "say 'a\t", "say '.", "say \"a", "say \"a\"",
                     "say `a",
                     "say \u2019a", "say '\u017f", "say '\u00aa", "say 'a\n'")

    def test_signs(self):
        self.refused("say * a b", "say / a b", "say > a b", "say == a b", "say <= a b", "say add a b", "say ++ a b",
                     "say a + b", "say (+ a b)", "say + a, b", "say \u2212 a b", "say - a", "say < 5", "say <")


class ManyPrograms(Texts):
    def programs(self, many):
        """Programs within the limits, of sixty lines at most."""
        for seed in range(many):
            for program in (Maker(seed).row(5), LivelyMaker(seed).program(), RestlessMaker(seed).program()):
                if program_text(program).count("\n") < 60:
                    yield program

    def test_written_and_read_back(self):
        longest = 0
        for program in self.programs(300):
            written = program_text(program)
            self.both(written, *program[1])
            longest = max(longest, written.count("\n") + 1)
        self.assertGreater(longest, 50)

    def changed(self, written, chance):
        """The text with a change of a letter, of blanks or of lines."""
        at, marks = chance.randrange(len(written) + 1), "  \n'+-<=0159abhiz"
        way = chance.randrange(6)
        if way == 0:
            return written[:at] + written[at + 1:]
        if way == 1:
            return written[:at] + chance.choice(marks) + written[at:]
        if way == 2:
            return written[:at] + chance.choice(marks) + written[at + 1:]
        rows = written.split("\n")
        line = chance.randrange(len(rows))
        if way == 3:
            del rows[line]
        elif way == 4:
            rows.insert(line, chance.choice(rows))
        else:
            rows[line] = "  " + rows[line] if chance.random() < 0.5 else rows[line][2:]
        return "\n".join(rows)

    def test_what_is_read_is_what_is_written(self):
        """A changed text is refused, or it is what some other program is written as."""
        chance, refused, taken = random.Random(1), 0, 0
        for program in self.programs(60):
            for _ in range(40):
                text_now = self.changed(program_text(program), chance)
                try:
                    got = read_program(text_now)
                except Unread:
                    refused += 1
                else:
                    self.assertEqual(program_text(got), text_now)
                    self.within(got)
                    taken += 1
        self.assertGreater(min(refused, taken), 500, (refused, taken))

    def within(self, program):
        """The program is within the limits of point [4]."""
        self.assertLessEqual(self.deep(program), 5)
        self.assertLess(program_text(program).count("\n"), 60)

    def deep(self, part):
        """How deep whiles and ifs lie in it; its expressions are looked at, too."""
        if part[0] == "row":
            return max([self.deep(inner) for inner in part[1]], default=0)
        self.assertLessEqual(self.expression_deep(part[2 if part[0] == "set" else 1]), 5)
        if part[0] in ("say", "set"):
            return 0
        return 1 + max(self.deep(inner) for inner in part[2:])

    def expression_deep(self, part):
        if part[0] == "num":
            self.assertIn(part[1], range(10000))
        if part[0] == "text":
            self.assertRegex(part[1], r"\A[a-z]{0,12}\Z")
        if part[0] == "name":
            self.assertIn(part[1], list("abcdefgh"))
        if part[0] in ("num", "text", "name"):
            return 1
        return 1 + max(self.expression_deep(part[1]), self.expression_deep(part[2]))


if __name__ == "__main__":
    unittest.main()
