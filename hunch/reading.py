"""Programs as texts, a statement a line, and back."""

from hunch.errors import Unread
from hunch.values import MOST_LETTERS

MARKS = {"add": "+", "sub": "-", "less": "<", "same": "="}
MARKED = {"+": "add", "-": "sub", "<": "less", "=": "same"}
NAMES = ("a", "b", "c", "d", "e", "f", "g", "h")
FIGURES = "0123456789"
LETTERS = "abcdefghijklmnopqrstuvwxyz"
MOST_FIGURES = 4
MOST_LINES = 60
# Of expressions in one another, and of whiles and ifs in one another.
MOST_DEEP = 5
AHEAD = "  "


def program_text(program):
    """The text that a program is written as."""
    lines = []
    write_row(lines, program, 0)
    return "\n".join(lines)


def write_row(lines, row, deep):
    """Adds the lines of a row's parts."""
    for part in row[1]:
        write_statement(lines, part, deep)


def write_statement(lines, statement, deep):
    """Adds the lines of a statement that lies so deep."""
    word = statement[0]
    ahead = AHEAD * deep
    if word == "set":
        lines.append(f"{ahead}set {statement[1]} {expression_text(statement[2])}")
    else:
        lines.append(f"{ahead}{word} {expression_text(statement[1])}")
    if word in ("if", "while"):
        write_row(lines, statement[2], deep + 1)
    if word == "if" and statement[3][1]:
        lines.append(f"{ahead}else")
        write_row(lines, statement[3], deep + 1)


def expression_text(expression):
    """The text that an expression is written as."""
    word = expression[0]
    if word in MARKS:
        return f"{MARKS[word]} {expression_text(expression[1])} {expression_text(expression[2])}"
    if word == "text":
        return f"'{expression[1]}"
    return f"{expression[1]}"


def read_program(text):
    """The program that a text is written for."""
    if text == "":
        return ("row", ())
    # Not by splitlines: it takes other signs than a line feed for ends of lines.
    lines = [laid(line) for line in text.split("\n")]
    if len(lines) > MOST_LINES:
        raise Unread("there are more than sixty lines")
    program, at = read_row(lines, 0, 0)
    if at < len(lines):
        raise Unread(f"line {at + 1} has too many or too few blanks ahead")
    return program


def laid(line):
    """How many blanks stand ahead of a line, and its words."""
    rest = line.lstrip(" ")
    return len(line) - len(rest), rest.split(" ")


def read_row(lines, at, deep):
    """The row of the statements from a line on that lie so deep, and the line behind."""
    parts = []
    while at < len(lines) and lines[at][0] == deep * len(AHEAD):
        part, at = read_statement(lines, at, deep)
        parts.append(part)
    return ("row", tuple(parts)), at


def read_statement(lines, at, deep):
    """The statement that begins with a line, and the line behind it."""
    words = lines[at][1]
    if words[0] == "say":
        return ("say", read_value(words, 1)), at + 1
    if words[0] == "set":
        if len(words) < 2 or words[1] not in NAMES:
            raise Unread(f"line {at + 1} sets no name")
        return ("set", words[1], read_value(words, 2)), at + 1
    if words[0] not in ("if", "while"):
        raise Unread(f"line {at + 1} is no statement")
    if deep >= MOST_DEEP:
        raise Unread(f"line {at + 1} is an if or a while that lies too deep")
    test = read_value(words, 1)
    body, behind = read_row(lines, at + 1, deep + 1)
    if words[0] == "while":
        return ("while", test, body), behind
    otherwise, behind = read_else(lines, behind, deep)
    return ("if", test, body, otherwise), behind


def read_else(lines, at, deep):
    """The row behind an else, an empty one where no else is, and the line behind it."""
    if at == len(lines) or lines[at] != (deep * len(AHEAD), ["else"]):
        return ("row", ()), at
    otherwise, behind = read_row(lines, at + 1, deep + 1)
    if behind == at + 1:
        raise Unread(f"line {at + 1} is an else with nothing in it")
    return otherwise, behind


def read_value(words, start):
    """The expression that is written by all words from one on."""
    expression, at = read_expression(words, start, 1)
    if at < len(words):
        raise Unread("words are left behind an expression")
    return expression


def read_expression(words, at, deep):
    """The expression that begins with a word, and the place of the word behind it."""
    if at == len(words):
        raise Unread("an expression is lacking")
    if deep > MOST_DEEP:
        raise Unread("an expression is too deep")
    if words[at] not in MARKED:
        return read_leaf(words[at]), at + 1
    first, middle = read_expression(words, at + 1, deep + 1)
    second, behind = read_expression(words, middle, deep + 1)
    return (MARKED[words[at]], first, second), behind


def read_leaf(word):
    """The expression without others in it that is written as a word."""
    if word in NAMES:
        return ("name", word)
    if is_number(word):
        return ("num", int(word))
    if is_text(word):
        return ("text", word[1:])
    raise Unread("a word is no number, text or name")


def is_number(word):
    """Whether a word is a number as it is written, with no nought ahead."""
    if word == "0":
        return True
    return 1 <= len(word) <= MOST_FIGURES and word[0] != "0" and all_among(word, FIGURES)


def is_text(word):
    """Whether a word is a text as it is written."""
    return word.startswith("'") and len(word) <= 1 + MOST_LETTERS and all_among(word[1:], LETTERS)


def all_among(word, letters):
    """Whether all letters of a word are among these."""
    return all([letter in letters for letter in word])
