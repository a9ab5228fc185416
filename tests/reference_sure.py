"""A second reading of [33]: a sure count over blocks that are sets of markings, with pairs of fractions as spans."""

from fractions import Fraction
from itertools import combinations, product
from math import floor

from reference import LARGE, Plain


class Break(Exception):
    """The sure count breaks off."""


def both(value):
    return (Fraction(value), Fraction(value))


def is_big(value):
    return max(abs(value.numerator), value.denominator) >= LARGE


def quotient(a, b):
    if b == (0, 0):
        return both(0)
    if b[0] <= 0 <= b[1]:
        raise Break("quotient")
    found = [x / y for x in a for y in b]
    return (min(found), max(found))


def times(a, b):
    found = [x * y for x in a for y in b]
    return (min(found), max(found))


def truth(a):
    """1, 0 or None."""
    if a == (0, 0):
        return 0
    return None if a[0] <= 0 <= a[1] else 1


def compare(word, a, b):
    """1, 0 or None."""
    if word == "<":
        return 1 if a[1] < b[0] else 0 if a[0] >= b[1] else None
    if word == "<=":
        return 1 if a[1] <= b[0] else 0 if a[0] > b[1] else None
    if word == "=":
        return 0 if a[1] < b[0] or b[1] < a[0] else 1 if a[0] == a[1] and b[0] == b[1] else None
    truths = (truth(a), truth(b))
    if word == "or":
        return 1 if 1 in truths else 0 if truths == (0, 0) else None
    return 0 if 0 in truths else 1 if truths == (1, 1) else None


class Sure(Plain):
    """A sure count; why it broke off, or None, is in `why`."""

    def __init__(self, contest, roll, changed=0, free=0):
        self.contest, self.many, self.changed, self.free = contest, contest.many, changed, free
        self.votes, self.roll = len(roll) + free, list(roll)
        self.blocks = [[contest.markings(), -2, both(1)]]
        self.rows = {name: [both(0)] * self.many for name in contest.rule.rows}
        self.nums = {name: both(0) for name in contest.rule.nums}
        self.seats, self.weighs, self.why = [], 0, None
        try:
            self.do_all(contest.rule.statements)
        except Break as reason:
            self.why = str(reason)

    def result(self):
        return tuple(self.seats) if self.why is None else None

    def small(self, value, why):
        if any(map(is_big, value)):
            raise Break(why)
        return value

    def one(self, value, why):
        if value[0] != value[1]:
            raise Break(why)
        return value[0]

    def index(self, value, why):
        return self.at(self.one(value, why))

    def sure(self, value, why):
        found = truth(value)
        if found is None:
            raise Break(why)
        return found

    def value(self, expression):
        word, *parts = expression
        if word == "number":
            return both(parts[0])
        if word == "name":
            return self.nums[parts[0]]
        values = [self.value(part) for part in parts if isinstance(part, tuple)]
        if word in ("at", "lot"):
            at = self.index(values[0], "index")
            if at is None:
                return both(0)
            return both(self.contest.lot.index(self.contest.names[at])) if word == "lot" else self.rows[parts[0]][at]
        plain = {"votes": self.votes, "names": self.many, "seats": self.contest.rule.seats, "seated": len(self.seats)}
        return both(plain[word]) if word in plain else self.operated(word, *values)

    def operated(self, word, a, b=None):
        if word in ("+", "-", "*", "/"):
            found = (quotient(a, b) if word == "/" else times(a, b) if word == "*" else
                     (a[0] + b[0], a[1] + b[1]) if word == "+" else (a[0] - b[1], a[1] - b[0]))
            return self.small(found, word)
        if word in ("min", "max"):
            pick = min if word == "min" else max
            return (pick(a[0], b[0]), pick(a[1], b[1]))
        if word == "floor":
            return (Fraction(floor(a[0])), Fraction(floor(a[1])))
        so = compare(word, a, b) if word != "not" else {1: 0, 0: 1, None: None}[truth(a)]
        return (Fraction(0), Fraction(1)) if so is None else both(so)

    def do_set(self, row, index, expression):
        where, value = self.value(index), self.value(expression)
        at = self.index(where, "set")
        if at is not None:
            self.rows[row][at] = value

    def do_if(self, test, statements, others):
        self.do_all(statements if self.sure(self.value(test), "if") else others)

    def number(self, value):
        return both(value)

    def do_ask(self, sorting, where):
        values = [self.value(part) for part in sorting[1:] if isinstance(part, tuple)]
        limit = None if where is None else self.value(where)
        values = [self.one(value, sorting[0]) for value in values]
        limit = None if limit is None else self.one(limit, "where")
        stands = [self.sure(value, "top") for value in self.rows[sorting[1]]] if sorting[0] == "top" else ()
        found = []
        for markings, label, weight in self.blocks:
            if limit is not None and label != limit:
                found.append([markings, label, weight])
                continue
            split = {}
            for marking in markings:
                split.setdefault(self.label(sorting, values, stands, marking), []).append(marking)
            found.extend([sub, new, weight] for new, sub in split.items())
        self.blocks = found

    def total(self, values, why):
        least, greatest = min(low for low, _ in values), max(high for _, high in values)
        low = high = Fraction(0)
        for (markings, _, _), value in zip(self.blocks, values):
            size = sum(ballot in markings for ballot in self.roll)
            low, high = low + size * value[0], high + size * value[1]
        way = self.changed * (greatest - least)
        return self.small((low - way + self.free * least, high + way + self.free * greatest), why)

    def do_tally(self, row):
        self.rows[row] = [self.total([weight if label == a else both(0) for _, label, weight in self.blocks], "tally")
                          for a in range(self.many)]

    def do_sum(self, name):
        self.nums[name] = self.total([times(weight, both(label)) for _, label, weight in self.blocks], "sum")

    def do_weigh(self, label, factor):
        if self.weighs == 20:
            raise Break("weighs")
        label, factor = self.value(label), self.value(factor)
        label = self.one(label, "weigh")
        self.weighs += 1
        factor = tuple(min(max(end, Fraction(0)), Fraction(1)) for end in factor)
        for block in self.blocks:
            if block[1] == label:
                block[2] = times(block[2], factor)

    def do_seat(self, expression):
        at = self.index(self.value(expression), "seat")
        if at is not None and len(self.seats) < self.contest.rule.seats:
            self.seats.append(at)

    def do_tell(self, expression):
        self.value(expression)


def variants(contest, roll, changed=0, free=0, only=None):
    """All variants of a roll, each once, as tuples."""
    numbers = range(len(roll)) if only is None else sorted(set(only))
    found = {}
    for places in combinations(numbers, min(changed, len(numbers))):
        for given in product(contest.markings(), repeat=len(places)):
            ballots = list(roll)
            for ballot, marking in zip(places, given):
                ballots[ballot] = marking
            for behind in product(contest.markings(), repeat=free):
                found[(*ballots, *behind)] = True
    return list(found)
