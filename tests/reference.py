"""A second reading of [7] to [11]: a plain count with the fractions of Python, one statement behind the other.

It also makes rules and rolls by a sequence of numbers, so that both readings can be compared over many of them.
"""

import random
from fractions import Fraction
from math import floor

from soleheld.rules import Rule

LARGE = 10 ** 200


class Stop(Exception):
    """The count ends ahead of its last statement."""


class Leave(Exception):
    """A leave has come up."""


class Plain:
    """A plain count that is going on."""

    def __init__(self, contest, roll):
        self.contest, self.roll, self.many = contest, roll, contest.many
        self.labels, self.weights = [-2] * len(roll), [Fraction(1)] * len(roll)
        self.rows = {name: [Fraction(0)] * self.many for name in contest.rule.rows}
        self.nums = {name: Fraction(0) for name in contest.rule.nums}
        self.seats, self.history, self.weighs = [], [], 0

    def count(self):
        end = "whole"
        try:
            self.do_all(self.contest.rule.statements)
        except Stop as stop:
            end = str(stop)
        return tuple(self.history), tuple(self.seats), end

    def do_all(self, statements):
        for statement in statements:
            getattr(self, "do_" + statement[0])(*statement[1:])

    def small(self, value):
        if max(abs(value.numerator), value.denominator) >= LARGE:
            raise Stop("digits")
        return value

    def at(self, value):
        return int(value) if value.denominator == 1 and 0 <= value < self.many else None

    def value(self, expression):
        word, *parts = expression
        if word == "number":
            return Fraction(parts[0])
        if word == "name":
            return self.nums[parts[0]]
        values = [self.value(part) for part in parts if isinstance(part, tuple)]
        if word in ("at", "lot"):
            at = self.at(values[0])
            if at is None:
                return Fraction(0)
            return Fraction(self.contest.lot.index(self.contest.names[at])) if word == "lot" else self.rows[parts[0]][at]
        plain = {"votes": len(self.roll), "names": self.many, "seats": self.contest.rule.seats, "seated": len(self.seats)}
        return Fraction(plain[word]) if word in plain else self.operated(word, *values)

    def operated(self, word, a, b=None):
        if word in ("+", "-", "*", "/"):
            if word == "/":
                return self.small(a / b if b else Fraction(0))
            return self.small(a + b if word == "+" else a - b if word == "-" else a * b)
        found = {"not": lambda: not a, "floor": lambda: floor(a), "min": lambda: min(a, b), "max": lambda: max(a, b),
                 "or": lambda: bool(a or b), "and": lambda: bool(a and b), "<": lambda: a < b, "<=": lambda: a <= b,
                 "=": lambda: a == b}
        return Fraction(found[word]())

    def do_let(self, name, expression):
        self.nums[name] = self.value(expression)

    def do_set(self, row, index, expression):
        at, value = self.at(self.value(index)), self.value(expression)
        if at is not None:
            self.rows[row][at] = value

    def do_if(self, test, statements, others):
        self.do_all(statements if self.value(test) else others)

    def number(self, value):
        return Fraction(value)

    def do_each(self, name, statements):
        for a in range(self.many):
            self.nums[name] = self.number(a)
            self.do_all(statements)
        del self.nums[name]

    def do_times(self, number, statements):
        try:
            for _ in range(self.many if number == "names" else number):
                self.do_all(statements)
        except Leave:
            pass

    def do_leave(self):
        raise Leave

    def do_ask(self, sorting, where):
        values = [self.value(part) for part in sorting[1:] if isinstance(part, tuple)]
        limit = None if where is None else self.value(where)
        for ballot, marking in enumerate(self.roll):
            if limit is None or self.labels[ballot] == limit:
                self.labels[ballot] = self.label(sorting, values, self.rows.get(sorting[1]), marking)

    def label(self, sorting, values, stands, marking):
        if sorting[0] == "top":
            standing = [a for a in range(self.many) if marking[a] and stands[a]]
            places = {a: self.contest.lot.index(self.contest.names[a]) for a in standing}
            return min(standing, key=lambda a: (-marking[a], places[a])) if standing else -1
        marks = [0 if self.at(value) is None else marking[self.at(value)] for value in values]
        if sorting[0] == "mark":
            return marks[0]
        if sorting[0] == "from":
            return int(marks[0] >= values[1])
        return (marks[0] > marks[1]) - (marks[0] < marks[1])

    def pair(self, value):
        return (value.numerator, value.denominator)

    def do_tally(self, row):
        found = [Fraction(0)] * self.many
        for label, weight in zip(self.labels, self.weights):
            if 0 <= label < self.many:
                found[label] += weight
        self.rows[row] = [self.small(total) for total in found]
        self.history.append(("tally", row, tuple(self.pair(total) for total in found)))

    def do_sum(self, name):
        total = self.small(sum((weight * label for label, weight in zip(self.labels, self.weights)), Fraction(0)))
        self.nums[name] = total
        self.history.append(("sum", name, self.pair(total)))

    def do_weigh(self, label, factor):
        if self.weighs == 20:
            raise Stop("weighs")
        label, factor = self.value(label), self.value(factor)
        self.weighs += 1
        for ballot, own in enumerate(self.labels):
            if own == label:
                self.weights[ballot] *= min(max(factor, Fraction(0)), Fraction(1))

    def do_seat(self, expression):
        at = self.at(self.value(expression))
        if at is not None and len(self.seats) < self.contest.rule.seats:
            self.seats.append(at)
            self.history.append(("seat", at))

    def do_tell(self, expression):
        self.history.append(("tell", self.pair(self.value(expression))))


class Maker:
    """Makes rules and rolls; the same ones for the same seed."""

    def __init__(self, seed):
        self.random = random.Random(seed)
        self.eaches = []

    def one_of(self, things):
        return things[self.random.randrange(len(things))]

    def expression(self, depth=3):
        plain = [("number", self.one_of((0, 0, 1, 1, 2, 3, 7, 999999999))), ("name", self.one_of(["n", "x", *self.eaches])),
                 ("votes",), ("names",), ("seats",), ("seated",)]
        if depth == 0 or self.random.randrange(3) == 0:
            return self.one_of(plain)
        word = self.one_of(("at", "lot", "floor", "not", "min", "max", "or", "and", "<", "<=", "=", "+", "-", "*", "/"))
        first = self.expression(depth - 1)
        if word == "at":
            return ("at", self.one_of(("r", "s")), first)
        return (word, first) if word in ("lot", "floor", "not") else (word, first, self.expression(depth - 1))

    def sorting(self):
        word = self.one_of(("top", "top", "mark", "from", "over"))
        if word == "top":
            return ("top", self.one_of(("r", "s")))
        return (word, *[self.one_of([self.expression(1), ("number", 0), ("number", 1)]) for _ in range(1 + (word != "mark"))])

    def statements(self, depth, in_times):
        return tuple(self.statement(depth, in_times) for _ in range(self.random.randrange(1, 6)))

    def statement(self, depth, in_times):
        words = ["let", "set", "set", "ask", "ask", "tally", "sum", "weigh", "weigh", "seat", "tell", "square"]
        words += ["if", "each", "times"] * (depth > 0) + ["leave"] * in_times
        word = self.one_of(words)
        if word == "let":
            return ("let", self.one_of(("n", "x")), self.expression())
        if word == "set":
            return ("set", self.one_of(("r", "s")), self.expression(1), self.expression())
        if word == "square":
            return ("times", self.one_of((3, 5)), (("let", "n", ("*", ("name", "n"), ("name", "n"))),))
        if word == "if":
            return ("if", self.expression(), self.statements(depth - 1, in_times), self.statements(depth - 1, in_times))
        if word == "each":
            return self.each(depth, in_times)
        if word == "times":
            return ("times", self.one_of((1, 2, 5, "names")), self.statements(depth - 1, True))
        if word == "leave":
            return ("leave",)
        if word == "ask":
            return ("ask", self.sorting(), self.one_of((None, self.expression(1))))
        if word == "tally":
            return ("tally", self.one_of(("r", "s")))
        if word == "sum":
            return ("sum", self.one_of(("n", "x")))
        return (word, self.expression(1), self.expression()) if word == "weigh" else (word, self.expression())

    def each(self, depth, in_times):
        self.eaches.append("abc"[len(self.eaches)])
        statements = self.statements(depth - 1, in_times)
        return ("each", self.eaches.pop(), statements)

    def rule(self, form):
        statements = self.statements(3, False)
        return Rule("made", form, self.random.randrange(1, 4), ("r", "s"), ("n", "x"), statements)

    def roll(self, contest):
        return [self.one_of(contest.markings()) for _ in range(self.random.randrange(9))]
