"""Piles: ballots that are alike for a count, with one label and one weight."""

from soleheld.worths import ONE, ZERO, plus, product, worth

FIRST_LABEL = -2


class Pile:
    """As many ballots as the size says; the markings of all of them have numbers that stand here."""

    def __init__(self, numbers, size):
        self.numbers = numbers
        self.size = size
        self.label = FIRST_LABEL
        self.weight = ONE


def total_weight(piles):
    """The sum of the weights of all ballots in piles."""
    total = ZERO
    for pile in piles:
        total = plus(total, product(pile.weight, worth(pile.size)))
    return total


def total_label(piles):
    """The sum of weight times label of all ballots in piles."""
    total = ZERO
    for pile in piles:
        total = plus(total, product(pile.weight, worth(pile.size * pile.label)))
    return total
