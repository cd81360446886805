"""Values of two kinds, and what the signs make of two of them."""

SIGNS = ("add", "sub", "less", "same")
# Of two values of unlike kinds these make nothing.
LIKE_SIGNS = ("add", "sub", "less")
MODULUS = 10007
MOST_LETTERS = 12


def kind_of(value):
    """The kind of a value: n for a number, t for a text."""
    return "n" if isinstance(value, int) else "t"


def is_so(value):
    """Whether a value counts as yes."""
    return value != 0 and value != ""


def worked(sign, one, two):
    """What a sign makes of two values, None where it makes nothing."""
    if sign == "same":
        # A number never equals a text, so the kinds need no look of their own.
        return 1 if one == two else 0
    if kind_of(one) != kind_of(two):
        return None
    if sign == "less":
        return 1 if one < two else 0
    if kind_of(one) == "n":
        return number_worked(sign, one, two)
    return text_worked(sign, one, two)


def number_worked(sign, one, two):
    """The sum or the difference of two numbers, as the rest by 10007."""
    if sign == "add":
        return (one + two) % MODULUS
    return (one - two) % MODULUS


def text_worked(sign, one, two):
    """Two texts joined and cut, or the first without the second's letters."""
    if sign == "add":
        return (one + two)[:MOST_LETTERS]
    return "".join([letter for letter in one if letter not in two])
