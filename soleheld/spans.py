"""Spans: all worths between two ends."""

from soleheld.errors import InvalidNumber
from soleheld.operations import greater, lesser
from soleheld.worths import ZERO, floor_of, is_less, minus, plus, product, quotient, worth, worth_text


class Span:
    """The worths from one end to another one, with both ends. It never changes."""

    def __init__(self, low, high):
        if is_less(high, low):
            raise InvalidNumber(high)
        self.low = low
        self.high = high

    def __add__(self, other):
        return Span(plus(self.low, other.low), plus(self.high, other.high))

    def __sub__(self, other):
        return Span(minus(self.low, other.high), minus(self.high, other.low))

    def __mul__(self, other):
        return span_round([product(a, b) for a in (self.low, self.high) for b in (other.low, other.high)])

    def over(self, other):
        """The quotient by another span, None if it is open."""
        if other.truth() is None:
            return None
        # By zero alone all quotients are zero.
        return span_round([quotient(a, b) for a in (self.low, self.high) for b in (other.low, other.high)])

    def floor(self):
        """The span of the floors."""
        return Span(worth(floor_of(self.low)), worth(floor_of(self.high)))

    def least(self, other):
        """What the lesser one of both may be."""
        return Span(lesser(self.low, other.low), lesser(self.high, other.high))

    def greatest(self, other):
        """What the greater one of both may be."""
        return Span(greater(self.low, other.low), greater(self.high, other.high))

    def below(self, other):
        """Whether each worth is less than each one of another span; None if only some are."""
        if is_less(self.high, other.low):
            return True
        return None if is_less(self.low, other.high) else False

    def at_most(self, other):
        """Whether no worth is above one of another span; None if only some are."""
        if not is_less(other.low, self.high):
            return True
        return False if is_less(other.high, self.low) else None

    def same(self, other):
        """Whether each worth is equal to each one of another span; None if only some are."""
        if is_less(self.high, other.low) or is_less(other.high, self.low):
            return False
        return True if self.single() and other.single() else None

    def truth(self):
        """Whether the worths are not zero; None if only some are not."""
        if ZERO not in self:
            return True
        return False if self.single() else None

    def single(self):
        """Whether the ends are equal."""
        return self.low == self.high

    def __contains__(self, value):
        return not is_less(value, self.low) and not is_less(self.high, value)

    def __eq__(self, other):
        return isinstance(other, Span) and self.low == other.low and self.high == other.high

    def __str__(self):
        if self.low == self.high:
            return f"{worth_text(self.low)}"
        return f"{worth_text(self.low)}..{worth_text(self.high)}"


def point(value):
    """The single span of a worth."""
    return Span(value, value)


def span_round(worths):
    """The least span that holds all worths of a list."""
    low = worths[0]
    high = worths[0]
    for value in worths:
        low = lesser(low, value)
        high = greater(high, value)
    return Span(low, high)
