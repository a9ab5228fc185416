"""Names, numbers and the own words of the language of rules."""

OWN = (
    "rule", "form", "seats", "row", "num", "begin", "let", "be", "if", "else", "end", "each", "times", "leave",
    "ask", "where", "tally", "sum", "weigh", "by", "seat", "tell", "lot", "votes", "names", "seated", "and", "or",
    "not", "floor", "min", "max", "top", "mark", "from", "over",
)
LONGEST_NAME = 8


def is_word(text):
    """Whether a string has lowercase letters only, and at least one."""
    return text.isascii() and text.isalpha() and text.islower()


def is_figures(text):
    """Whether a string has decimal figures only, and at least one."""
    return text.isascii() and text.isdigit()


def is_name(value):
    """Whether any value is a name."""
    return isinstance(value, str) and len(value) <= LONGEST_NAME and is_word(value)


def is_integer(value):
    """Whether any value is a number: True and False are none."""
    return isinstance(value, int) and not isinstance(value, bool)


def is_number(value, least, most):
    """Whether any value is a number from least to most."""
    return is_integer(value) and least <= value <= most
