"""Piles: ballots that are alike for a count, with one label and one weight."""

from soleheld.worths import ONE, ZERO, plus, product, worth

FIRST_LABEL = -2


class Pile:
    """As many ballots as the size says; the markings of all of them have numbers that stand here."""

    def __init__(self, numbers, size):
        self.numbers = numbers
        self.size = size
        self.label = FIRST_LABEL
        self.weight = ONE

    def part(self, label, numbers, size):
        """A pile of some of its ballots, which keep their weight."""
        other = Pile(numbers, size)
        other.label = label
        other.weight = self.weight
        return other

    def with_weight(self, weight):
        """A pile of its ballots with another weight."""
        other = self.part(self.label, self.numbers, self.size)
        other.weight = weight
        return other


def least_number(pile):
    """The least number of a marking in a pile."""
    return pile.numbers[0]


def total_weight(piles):
    """The sum of the weights of all ballots in piles."""
    total = ZERO
    for pile in piles:
        if pile.size > 0:
            total = plus(total, product(pile.weight, worth(pile.size)))
    return total


def total_label(piles):
    """The sum of weight times label of all ballots in piles."""
    total = ZERO
    for pile in piles:
        if pile.size > 0:
            total = plus(total, product(pile.weight, worth(pile.size * pile.label)))
    return total
