"""The plain rows of a program."""

from hunch.values import SIGNS


def coded(program):
    """The rows of a program, place by place, with the end behind all."""
    rows = []
    add_statement(rows, program)
    rows.append(("end",))
    return tuple(rows)


def add_expression(rows, expression):
    """Adds an expression's rows."""
    word = expression[0]
    if word in SIGNS:
        add_expression(rows, expression[1])
        add_expression(rows, expression[2])
        rows.append((word,))
    else:
        rows.append(expression)


def add_statement(rows, statement):
    """Adds a statement's rows; a row's are those of its parts."""
    word = statement[0]
    if word == "row":
        for part in statement[1]:
            add_statement(rows, part)
    elif word == "say":
        add_expression(rows, statement[1])
        rows.append(("say",))
    elif word == "set":
        add_expression(rows, statement[2])
        rows.append(("set", statement[1]))
    elif word == "if":
        add_if(rows, statement[1], statement[2], statement[3])
    else:
        add_while(rows, statement[1], statement[2])


def add_if(rows, test, yes, no):
    """Adds an if's rows."""
    add_expression(rows, test)
    unless = held_place(rows)
    add_statement(rows, yes)
    go = held_place(rows)
    rows[unless] = ("unless", len(rows))
    add_statement(rows, no)
    rows[go] = ("go", len(rows))


def add_while(rows, test, body):
    """Adds a while's rows."""
    top = len(rows)
    rows.append(("top",))
    add_expression(rows, test)
    unless = held_place(rows)
    add_statement(rows, body)
    rows.append(("go", top))
    rows[unless] = ("unless", len(rows))


def held_place(rows):
    """Holds a place for a row whose target is known only later."""
    rows.append(None)
    return len(rows) - 1
