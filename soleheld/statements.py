"""The statements of a rule: how a line of one is read, what it names, and what it costs."""

from soleheld.errors import BadRule
from soleheld.expressions import names_in, read_expression

MOST_TIMES = 20


def read_statement(line):
    """The statement of a line; of an if, each or times only what stands in its first line."""
    word = line.take()
    if word in ("else", "end", "leave"):
        found = (word,)
    elif word in ("if", "seat", "tell"):
        found = (word, read_expression(line))
    elif word in ("each", "tally", "sum"):
        found = (word, line.take_name())
    elif word == "let":
        found = read_let(line)
    elif word == "times":
        found = ("times", read_times(line))
    elif word == "ask":
        found = read_ask(line)
    elif word == "weigh":
        first = read_expression(line)
        line.expect("by")
        found = ("weigh", first, read_expression(line))
    else:
        raise BadRule(line.number, "form")
    line.finish()
    return found


def read_let(line):
    """A let of a number variable, or of a worth of a row variable."""
    name = line.take_name()
    if not line.skip("["):
        line.expect("be")
        return ("let", name, read_expression(line))
    index = read_expression(line)
    line.expect("]")
    line.expect("be")
    return ("set", name, index, read_expression(line))


def read_times(line):
    """The number of a times, or the word for that of the candidates."""
    return "names" if line.skip("names") else line.take_number(1, MOST_TIMES)


def read_ask(line):
    """An ask, with None if it has no where."""
    sorting = read_sorting(line)
    where = read_expression(line) if line.skip("where") else None
    return ("ask", sorting, where)


def read_sorting(line):
    """What an ask sorts by."""
    word = line.take()
    if word == "top":
        return ("top", line.take_name())
    if word == "over":
        first = read_expression(line)
        return ("over", first, read_expression(line))
    if word != "mark":
        raise BadRule(line.number, "form")
    first = read_expression(line)
    if line.skip("from"):
        return ("from", first, read_expression(line))
    return ("mark", first)


def expressions_of(statement):
    """The list of the expressions in the line of a statement, in their order."""
    word = statement[0]
    if word in ("each", "times"):
        return []
    if word == "if":
        return [statement[1]]
    if word == "ask":
        asked = [part for part in statement[1] if isinstance(part, tuple)]
        return asked if statement[2] is None else [*asked, statement[2]]
    return [part for part in statement if isinstance(part, tuple)]


def row_names(statement):
    """The names in the line of a statement that stand for row variables."""
    found = [statement[1]] if statement[0] in ("set", "tally") else []
    if statement[0] == "ask" and statement[1][0] == "top":
        found.append(statement[1][1])
    for expression in expressions_of(statement):
        found.extend(names_in(expression, "at"))
    return found


def changed_names(statement):
    """The names in the line of a statement that stand for number variables alone."""
    return [statement[1]] if statement[0] in ("let", "sum") else []


def read_names(statement):
    """The names in the line of a statement that stand for number variables or each names."""
    return [name for expression in expressions_of(statement) for name in names_in(expression, "name")]


def cost_of(statements, many):
    """The cost of a list of statements for a number of candidates."""
    return sum([single_cost(statement, many) for statement in statements])


def single_cost(statement, many):
    """The cost of a statement for a number of candidates."""
    word = statement[0]
    if word == "if":
        return 1 + max(cost_of(statement[2], many), cost_of(statement[3], many))
    if word == "each":
        return 1 + many * cost_of(statement[2], many)
    if word == "times":
        return 1 + rounds_of(statement, many) * cost_of(statement[2], many)
    return 1


def rounds_of(statement, many):
    """How often a times does its statements."""
    return many if statement[1] == "names" else statement[1]
