"""A count that is going on: a rule is done from one ask to the next, on piles of ballots."""

from soleheld.expressions import PLAIN_WORDS, parts_of
from soleheld.operations import ARITHMETIC, calculated, greater, holds, lesser
from soleheld.piles import total_label, total_weight
from soleheld.statements import expressions_of
from soleheld.walks import Walk
from soleheld.worths import ONE, ZERO, floor_of, index_of, is_large, product, worth

MOST_WEIGHS = 20


class Ask:
    """An ask that has come up, with the worths of its expressions. Whoever leads the count labels the piles."""

    def __init__(self, sorting, worths, where, stands):
        self.sorting = sorting
        self.worths = worths
        self.where = where
        self.stands = stands

    def hits(self, pile):
        """Whether a pile gets a new label."""
        return self.where is None or self.where == worth(pile.label)


class Counting:
    """The variables, the seats and the history of a count, and where it stands in its rule.

    Expressions have values. Here they are worths; a class below this one may reckon with values of another kind.
    """

    def __init__(self, contest, votes, piles):
        rule = contest.rule
        self.contest = contest
        self.votes = votes
        self.piles = piles
        self.walk = Walk(rule.statements, contest.many)
        self.rows = {name: [self.value_of(ZERO)] * contest.many for name in rule.rows}
        self.nums = {name: self.value_of(ZERO) for name in rule.nums}
        self.seats = []
        self.history = []
        self.weighs = 0
        self.end = "open"

    def twin(self):
        """An independent counting in the same state. Piles are not changed but by new labels, so both have the same."""
        other = Counting(self.contest, self.votes, self.piles)
        other.walk = self.walk.twin()
        other.rows = {name: list(values) for name, values in self.rows.items()}
        other.nums = dict(self.nums)
        other.seats = list(self.seats)
        other.history = list(self.history)
        other.weighs = self.weighs
        other.end = self.end
        return other

    def next_ask(self):
        """Does all that comes ahead of the next ask. That ask, or None if the count has come to its end."""
        while self.end == "open":
            statement = self.walk.take()
            if statement is None:
                self.end = "whole"
            elif statement[0] == "weigh" and self.weighs == MOST_WEIGHS:
                self.end = "weighs"
            else:
                values = [self.evaluated(expression) for expression in expressions_of(statement)]
                # A large result has ended the count, and the statement has no effect.
                if self.end == "open" and statement[0] == "ask":
                    return self.ask_of(statement, values)
                if self.end == "open":
                    self.do(statement, values)
        return None

    def ask_of(self, statement, values):
        """The ask of a statement with the values of its expressions."""
        sorting = statement[1]
        worths = [self.single_worth(value) for value in values]
        stands = [self.is_yes(value) for value in self.rows[sorting[1]]] if sorting[0] == "top" else []
        if statement[2] is None:
            return Ask(sorting, worths, None, stands)
        return Ask(sorting, worths[:-1], worths[-1], stands)

    def do(self, statement, values):
        """The effect of a statement, which is no ask, with the values of its expressions."""
        word = statement[0]
        if word == "let":
            self.nums[statement[1]] = values[0]
        elif word == "set":
            self.set_value(statement[1], self.index_at(values[0]), values[1])
        elif word == "if":
            self.walk.enter_if(statement, self.is_yes(values[0]))
        elif word == "each":
            self.walk.enter_each(statement)
        elif word == "times":
            self.walk.enter_times(statement)
        elif word == "leave":
            self.walk.leave()
        elif word == "tally":
            self.make_tally(statement[1])
        elif word == "sum":
            self.make_sum(statement[1])
        elif word == "weigh":
            self.make_weigh(self.single_worth(values[0]), values[1])
        elif word == "seat":
            self.give_seat(self.index_at(values[0]))
        else:
            self.history.append(("tell", values[0]))

    def set_value(self, row, at, value):
        """Changes the value of a row variable at an index, if it is one."""
        if at >= 0:
            self.rows[row][at] = value

    def make_tally(self, row):
        """Counts the weights of the ballots for each candidate."""
        found = [self.tally_at(a) for a in range(self.contest.many)]
        if any([self.is_large_value(value) for value in found]):
            self.end = "digits"
        else:
            self.rows[row] = found
            self.history.append(("tally", row, tuple(found)))

    def make_sum(self, name):
        """Counts the labels of the ballots by their weights."""
        found = self.sum_of_labels()
        if self.is_large_value(found):
            self.end = "digits"
        else:
            self.nums[name] = found
            self.history.append(("sum", name, found))

    def make_weigh(self, label, factor):
        """Multiplies the weights of the ballots with a label."""
        self.weighs += 1
        self.piles = [self.weighed(pile, factor) if worth(pile.label) == label else pile for pile in self.piles]

    def give_seat(self, at):
        """Gives the candidate at an index a seat, if it is one and a seat is left."""
        if at >= 0 and len(self.seats) < self.contest.rule.seats:
            self.seats.append(at)
            self.history.append(("seat", at))

    def evaluated(self, expression):
        """The value of an expression. If the result of an operator of arithmetic is large, the count ends."""
        word = expression[0]
        if word == "number":
            return self.value_of(worth(expression[1]))
        if word == "name":
            return self.named_value(expression[1])
        if word in PLAIN_WORDS:
            return self.value_of(worth(self.plain_number(word)))
        values = [self.evaluated(part) for part in parts_of(expression)]
        if word in ("at", "lot"):
            return self.value_at(expression, self.index_at(values[0]))
        if word not in ARITHMETIC:
            return self.compared(word, values)
        found = self.reckoned(word, values[0], values[1])
        if self.is_large_value(found):
            self.end = "digits"
        return found

    def named_value(self, name):
        """The value of a number variable, or of the name of an each."""
        return self.nums[name] if name in self.nums else self.value_of(worth(self.walk.candidate_of(name)))

    def plain_number(self, word):
        """The number for which one of the plain words stands."""
        if word == "votes":
            return self.votes
        if word == "names":
            return self.contest.many
        return self.contest.rule.seats if word == "seats" else len(self.seats)

    def index_at(self, value):
        """The index for which a value stands, -1 if it stands for none."""
        return index_of(self.single_worth(value), self.contest.many)

    def value_at(self, expression, at):
        """The value of a row variable or of the lot at an index, zero if it is none."""
        if at < 0:
            return self.value_of(ZERO)
        if expression[0] == "lot":
            return self.value_of(worth(self.contest.place_of(at)))
        return self.rows[expression[1]][at]

    def value_of(self, found):
        """The value of a worth."""
        return found

    def single_worth(self, value):
        """The worth for which a value stands."""
        return value

    def is_yes(self, value):
        """Whether a value counts as yes."""
        return value != ZERO

    def is_large_value(self, value):
        """Whether a value has too many digits."""
        return is_large(value)

    def reckoned(self, sign, a, b):
        """The value that an operator of arithmetic gives."""
        return calculated(sign, a, b)

    def compared(self, word, values):
        """The value of a floor, min or max, of a comparison, or of an operator of yes and no."""
        if word == "floor":
            return worth(floor_of(values[0]))
        if word == "min":
            return lesser(values[0], values[1])
        if word == "max":
            return greater(values[0], values[1])
        so = values[0] == ZERO if word == "not" else holds(word, values[0], values[1])
        return ONE if so else ZERO

    def tally_at(self, a):
        """The sum of the weights of the ballots whose label is the number of a candidate."""
        return total_weight([pile for pile in self.piles if pile.label == a])

    def sum_of_labels(self):
        """The sum of weight times label of all ballots."""
        return total_label(self.piles)

    def weighed(self, pile, factor):
        """A pile with its weight multiplied by a factor from 0 to 1."""
        return pile.with_weight(product(pile.weight, greater(ZERO, lesser(factor, ONE))))
