"""The expressions of a rule: how tight their operators are, how they are read, and what they name."""

from soleheld.words import is_figures

# From loose to tight; what is no operator is tighter than all operators.
LEVELS = {"or": 1, "and": 2, "not": 3, "<": 4, "<=": 4, "=": 4, "+": 5, "-": 5, "*": 6, "/": 6}
NOT_LEVEL = 3
COMPARISON_LEVEL = 4
SINGLE_LEVEL = 7
PLAIN_WORDS = ("votes", "names", "seats", "seated")


def level_of(word):
    """How tight an operator is."""
    return LEVELS.get(word, SINGLE_LEVEL)


def parts_of(expression):
    """The list of the expressions that an expression is directly made of."""
    return [part for part in expression if isinstance(part, tuple)]


def names_in(expression, word):
    """The names in an expression that stand behind a word: `name`, or `at` for row variables."""
    found = [expression[1]] if expression[0] == word else []
    for part in parts_of(expression):
        found.extend(names_in(part, word))
    return found


def read_expression(line):
    """The expression that comes next in a line, as long as it can be."""
    return read_level(line, 1)


def read_level(line, level):
    """An expression without operators that are looser than a level."""
    if level == SINGLE_LEVEL:
        return read_single(line)
    if level == NOT_LEVEL and line.skip("not"):
        return ("not", read_level(line, NOT_LEVEL))
    found = read_level(line, level + 1)
    while level != NOT_LEVEL and level_of(line.ahead()) == level:
        sign = line.take()
        found = (sign, found, read_level(line, level + 1))
        if level == COMPARISON_LEVEL:
            return found
    return found


def read_single(line):
    """An expression that is no operator: its first token tells which."""
    token = line.ahead()
    if is_figures(token):
        return ("number", int(line.take()))
    if token in PLAIN_WORDS:
        return (line.take(),)
    if token == "(":
        return read_within(line, "(", ")")
    if token in ("floor", "min", "max"):
        return read_call(line)
    if token == "lot":
        line.take()
        return ("lot", read_within(line, "[", "]"))
    name = line.take_name()
    if line.ahead() == "[":
        return ("at", name, read_within(line, "[", "]"))
    return ("name", name)


def read_within(line, first, last):
    """The expression between two brackets."""
    line.expect(first)
    found = read_expression(line)
    line.expect(last)
    return found


def read_call(line):
    """A floor, or a min or max of two expressions."""
    word = line.take()
    if word == "floor":
        return (word, read_within(line, "(", ")"))
    line.expect("(")
    first = read_expression(line)
    line.expect(",")
    second = read_expression(line)
    line.expect(")")
    return (word, first, second)
