"""A count that reckons with spans, and so with all variants of a roll at once."""

from soleheld.counting import Counting
from soleheld.spans import Span, point, span_round
from soleheld.worths import ONE, ZERO, is_large, minus, product, worth

BROKEN = "broken"


class SureCounting(Counting):
    """A counting of a roll with so many changed and free ballots. Where something is open, it breaks off."""

    def __init__(self, contest, pile, changed, free):
        Counting.__init__(self, contest, pile.size + free, [pile.with_weight(point(ONE))])
        self.changed = changed
        self.free = free

    def break_off(self):
        """Ends the count, since something is open."""
        self.end = BROKEN

    def value_of(self, found):
        """The single span of a worth."""
        return point(found)

    def single_worth(self, value):
        """The worth of a span that must be single."""
        if not value.single():
            self.break_off()
        return value.low

    def is_yes(self, value):
        """Whether a span counts as yes; this must not be open."""
        so = value.truth()
        if so is None:
            self.break_off()
        return so is True

    def is_large_value(self, value):
        """Whether an end of a span has too many digits."""
        return is_large(value.low) or is_large(value.high)

    def reckoned(self, sign, a, b):
        """The span that an operator of arithmetic gives."""
        if sign == "+":
            return a + b
        if sign == "-":
            return a - b
        if sign == "*":
            return a * b
        found = a.over(b)
        if found is None:
            self.break_off()
            return point(ZERO)
        return found

    def compared(self, word, values):
        """The span of a floor, min or max, of a comparison, or of an operator of yes and no."""
        if word == "floor":
            return values[0].floor()
        if word == "min":
            return values[0].least(values[1])
        if word == "max":
            return values[0].greatest(values[1])
        return span_of_truth(truth_of(word, values))

    def tally_at(self, a):
        """What the sum of the weights of the ballots for a candidate may be."""
        return self.total([pile.weight if pile.label == a else point(ZERO) for pile in self.piles])

    def sum_of_labels(self):
        """What the sum of weight times label of all ballots may be."""
        return self.total([pile.weight * point(worth(pile.label)) for pile in self.piles])

    def total(self, values):
        """What the sum of the values of the ballots may be, for the values of all blocks."""
        around = span_round([end for value in values for end in (value.low, value.high)])
        found = point(ZERO)
        for pile, value in zip(self.piles, values):
            found = found + value * point(worth(pile.size))
        # Each changed ballot moves the sum by no more than the way from one block to another one.
        way = product(worth(self.changed), minus(around.high, around.low))
        return found + Span(minus(ZERO, way), way) + around * point(worth(self.free))

    def weighed(self, pile, factor):
        """A pile with its weight multiplied by a factor from 0 to 1."""
        return pile.with_weight(pile.weight * factor.least(point(ONE)).greatest(point(ZERO)))


def truth_of(word, values):
    """Whether a comparison, a not, an and or an or is so; None if it is open."""
    if word == "<":
        return values[0].below(values[1])
    if word == "<=":
        return values[0].at_most(values[1])
    if word == "=":
        return values[0].same(values[1])
    truths = [value.truth() for value in values]
    if word == "not":
        return opposite(truths[0])
    # What is not both is so exactly where one of them is not so.
    if word == "and":
        return opposite(either(opposite(truths[0]), opposite(truths[1])))
    return either(truths[0], truths[1])


def opposite(so):
    """The opposite of a truth."""
    return None if so is None else not so


def either(first, second):
    """Whether one of two truths is yes; None if this is open."""
    if first is True or second is True:
        return True
    return None if first is None or second is None else False


def span_of_truth(so):
    """The span of a truth: from no to yes if it is open."""
    if so is None:
        return Span(ZERO, ONE)
    return point(ONE if so else ZERO)
