"""A count that is going on: a rule is done from one ask to the next, on piles of ballots."""

from soleheld.expressions import PLAIN_WORDS, parts_of
from soleheld.operations import ARITHMETIC, calculated, greater, holds, lesser
from soleheld.piles import total_label, total_weight
from soleheld.statements import expressions_of
from soleheld.walks import Walk
from soleheld.worths import ONE, ZERO, floor_of, index_of, is_large, product, worth

MOST_WEIGHS = 20


class Ask:
    """An ask that has come up, with the worths of its expressions. Whoever leads the count labels the piles."""

    def __init__(self, sorting, worths, where, stands):
        self.sorting = sorting
        self.worths = worths
        self.where = where
        self.stands = stands

    def hits(self, pile):
        """Whether a pile gets a new label."""
        return self.where is None or self.where == worth(pile.label)


class Counting:
    """The variables, the seats and the history of a count, and where it stands in its rule."""

    def __init__(self, contest, votes, piles):
        rule = contest.rule
        self.contest = contest
        self.votes = votes
        self.piles = piles
        self.walk = Walk(rule.statements, contest.many)
        self.rows = {name: [ZERO] * contest.many for name in rule.rows}
        self.nums = {name: ZERO for name in rule.nums}
        self.seats = []
        self.history = []
        self.weighs = 0
        self.end = "open"

    def twin(self):
        """An independent counting in the same state."""
        other = Counting(self.contest, self.votes, [pile.twin() for pile in self.piles])
        other.walk = self.walk.twin()
        other.rows = {name: list(worths) for name, worths in self.rows.items()}
        other.nums = dict(self.nums)
        other.seats = list(self.seats)
        other.history = list(self.history)
        other.weighs = self.weighs
        other.end = self.end
        return other

    def next_ask(self):
        """Does all that comes ahead of the next ask. That ask, or None if the count has come to its end."""
        while self.end == "open":
            statement = self.walk.take()
            if statement is None:
                self.end = "whole"
            elif statement[0] == "weigh" and self.weighs == MOST_WEIGHS:
                self.end = "weighs"
            else:
                values = [self.worth_of(expression) for expression in expressions_of(statement)]
                # A large result has ended the count, and the statement has no effect.
                if self.end == "open" and statement[0] == "ask":
                    return self.ask_of(statement, values)
                if self.end == "open":
                    self.do(statement, values)
        return None

    def ask_of(self, statement, values):
        """The ask of a statement with the worths of its expressions."""
        sorting = statement[1]
        stands = [found != ZERO for found in self.rows[sorting[1]]] if sorting[0] == "top" else []
        if statement[2] is None:
            return Ask(sorting, values, None, stands)
        return Ask(sorting, values[:-1], values[-1], stands)

    def do(self, statement, values):
        """The effect of a statement, which is no ask, with the worths of its expressions."""
        word = statement[0]
        if word == "let":
            self.nums[statement[1]] = values[0]
        elif word == "set":
            self.set_worth(statement[1], values[0], values[1])
        elif word == "if":
            self.walk.enter_if(statement, values[0] != ZERO)
        elif word == "each":
            self.walk.enter_each(statement)
        elif word == "times":
            self.walk.enter_times(statement)
        elif word == "leave":
            self.walk.leave()
        elif word == "tally":
            self.make_tally(statement[1])
        elif word == "sum":
            self.make_sum(statement[1])
        elif word == "weigh":
            self.make_weigh(values[0], values[1])
        elif word == "seat":
            self.give_seat(values[0])
        else:
            self.history.append(("tell", values[0]))

    def set_worth(self, row, index, value):
        """Changes a worth of a row variable."""
        at = index_of(index, self.contest.many)
        if at >= 0:
            self.rows[row][at] = value

    def make_tally(self, row):
        """Counts the weights of the ballots for each candidate."""
        found = [total_weight([pile for pile in self.piles if pile.label == a]) for a in range(self.contest.many)]
        if any([is_large(total) for total in found]):
            self.end = "digits"
        else:
            self.rows[row] = found
            self.history.append(("tally", row, tuple(found)))

    def make_sum(self, name):
        """Counts the labels of the ballots by their weights."""
        total = total_label(self.piles)
        if is_large(total):
            self.end = "digits"
        else:
            self.nums[name] = total
            self.history.append(("sum", name, total))

    def make_weigh(self, label, factor):
        """Multiplies the weights of the ballots with a label."""
        self.weighs += 1
        factor = greater(ZERO, lesser(factor, ONE))
        for pile in self.piles:
            if worth(pile.label) == label:
                pile.weight = product(pile.weight, factor)

    def give_seat(self, index):
        """Gives a candidate a seat, if one is left."""
        at = index_of(index, self.contest.many)
        if at >= 0 and len(self.seats) < self.contest.rule.seats:
            self.seats.append(at)
            self.history.append(("seat", at))

    def worth_of(self, expression):
        """The worth of an expression. If the result of an operator of arithmetic is large, the count ends."""
        word = expression[0]
        if word == "number":
            return worth(expression[1])
        if word == "name":
            return self.named_worth(expression[1])
        if word in PLAIN_WORDS:
            return worth(self.plain_number(word))
        values = [self.worth_of(part) for part in parts_of(expression)]
        if word in ("at", "lot"):
            return self.worth_at(expression, index_of(values[0], self.contest.many))
        if word in ARITHMETIC:
            found = calculated(word, values[0], values[1])
            if is_large(found):
                self.end = "digits"
            return found
        if word == "floor":
            return worth(floor_of(values[0]))
        if word == "min":
            return lesser(values[0], values[1])
        if word == "max":
            return greater(values[0], values[1])
        so = values[0] == ZERO if word == "not" else holds(word, values[0], values[1])
        return ONE if so else ZERO

    def named_worth(self, name):
        """The worth of a number variable, or of the name of an each."""
        return self.nums[name] if name in self.nums else worth(self.walk.candidate_of(name))

    def plain_number(self, word):
        """The number for which one of the plain words stands."""
        if word == "votes":
            return self.votes
        if word == "names":
            return self.contest.many
        return self.contest.rule.seats if word == "seats" else len(self.seats)

    def worth_at(self, expression, at):
        """The worth of a row variable or of the lot at an index, zero if it is none."""
        if at < 0:
            return ZERO
        if expression[0] == "lot":
            return worth(self.contest.place_of(at))
        return self.rows[expression[1]][at]
