"""Rules: their own texts, and the reading of texts."""

from soleheld.errors import BadRule
from soleheld.expressions import COMPARISON_LEVEL, NOT_LEVEL, level_of
from soleheld.reading import read_lines
from soleheld.statements import cost_of

MOST_COST = 5000
MOST_NAMES = 5


class Rule:
    """A rule of counting, made by read_rule alone."""

    def __init__(self, word, form, seats, rows, nums, statements):
        self.word = word
        self.form = form
        self.seats = seats
        self.rows = tuple(rows)
        self.nums = tuple(nums)
        self.statements = statements

    def cost(self, many):
        """The cost of all statements for a number of candidates."""
        return cost_of(self.statements, many)

    def __str__(self):
        return "".join([f"{line}\n" for line in [*head_lines(self), *own_lines(self.statements)]])

    def __eq__(self, other):
        return (isinstance(other, Rule) and self.word == other.word and self.form == other.form
                and self.seats == other.seats and self.rows == other.rows and self.nums == other.nums
                and self.statements == other.statements)

    def __repr__(self):
        return f"Rule({self.word})"


def read_rule(text):
    """The rule that is read from a text."""
    reading = read_lines(text)
    rule = Rule(reading.word, reading.form, reading.seats, reading.rows, reading.nums, reading.all_statements())
    if rule.cost(MOST_NAMES) > MOST_COST:
        raise BadRule(0, "cost")
    return rule


def head_lines(rule):
    """The first lines of the own text of a rule."""
    form = str(rule.form)
    rows = " ".join(["row", *rule.rows])
    nums = " ".join(["num", *rule.nums])
    return [f"rule {rule.word}", f"form {form}", f"seats {rule.seats}", rows, nums, "begin"]


def own_lines(statements):
    """The lines of statements in an own text."""
    return [line for statement in statements for line in statement_lines(statement)]


def statement_lines(statement):
    """The lines of a statement in an own text."""
    word = statement[0]
    if word == "if":
        others = own_lines(statement[3])
        if others:
            others = ["else", *others]
        return [f"if {write_expression(statement[1])}", *own_lines(statement[2]), *others, "end"]
    if word in ("each", "times"):
        return [f"{word} {statement[1]}", *own_lines(statement[2]), "end"]
    return [single_line(statement)]


def single_line(statement):
    """The line of a statement that has no others within."""
    word = statement[0]
    if word == "leave":
        return word
    if word in ("tally", "sum"):
        return f"{word} {statement[1]}"
    if word in ("seat", "tell"):
        return f"{word} {write_expression(statement[1])}"
    if word == "ask":
        return ask_line(statement[1], statement[2])
    if word == "set":
        return f"let {statement[1]}[{write_expression(statement[2])}] be {write_expression(statement[3])}"
    if word == "let":
        return f"let {statement[1]} be {write_expression(statement[2])}"
    return f"weigh {write_expression(statement[1])} by {write_expression(statement[2])}"


def ask_line(sorting, where):
    """The line of an ask."""
    text = f"ask {sorting_text(sorting)}"
    return text if where is None else f"{text} where {write_expression(where)}"


def sorting_text(sorting):
    """A sorting as it stands in an own text."""
    word = sorting[0]
    if word == "top":
        return f"top {sorting[1]}"
    first = write_expression(sorting[1])
    if word == "mark":
        return f"mark {first}"
    second = write_expression(sorting[2])
    return f"mark {first} from {second}" if word == "from" else f"over {first} {second}"


def write_expression(expression):
    """An expression as it stands in an own text."""
    word = expression[0]
    if word in ("number", "name"):
        return str(expression[1])
    if word == "at":
        return f"{expression[1]}[{write_expression(expression[2])}]"
    if word == "lot":
        return f"lot[{write_expression(expression[1])}]"
    if word in ("floor", "min", "max"):
        parts = ", ".join([write_expression(part) for part in expression[1:]])
        return f"{word}({parts})"
    if word == "not":
        return f"not {write_part(expression[1], NOT_LEVEL)}"
    if len(expression) == 1:
        return word
    level = level_of(word)
    # A right part that is equally tight needs parentheses, and so does a comparison within a comparison.
    left = write_part(expression[1], level + 1 if level == COMPARISON_LEVEL else level)
    return f"{left} {word} {write_part(expression[2], level + 1)}"


def write_part(part, level):
    """A part of an operator, in parentheses if it is looser than a level."""
    text = write_expression(part)
    return text if level_of(part[0]) >= level else f"({text})"
