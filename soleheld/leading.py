"""A count that is led by sizes: how it goes on from one question to the next."""

from soleheld.counting import Counting
from soleheld.counts import label_of
from soleheld.piles import Pile, least_number
from soleheld.questions import Question, split_block


class Leading:
    """A counting whose piles are blocks, the question that is open, and what its ask makes of each block."""

    def __init__(self, counting):
        self.counting = counting
        self.number = 0
        self.asked = None
        self.splits = []

    def go_on(self):
        """Goes on to the next question, or to the end."""
        self.asked = None
        while self.asked is None:
            ask = self.counting.next_ask()
            if ask is None:
                return
            self.splits = splits_of(self.counting, ask)
            parts = [part_of(pile, split) for pile, split in self.split_piles()]
            # An ask that splits nothing is no question, and its labels are given at once.
            if parts:
                self.asked = Question(self.number, parts)
            else:
                self.divide(())

    def lead_on(self, rows):
        """Goes on behind the rows of an answer."""
        self.divide(rows)
        self.number += 1
        self.go_on()

    def split_piles(self):
        """The list of the pairs of a block that is split and its sub-blocks, in order."""
        return [(pile, split) for pile, split in zip(self.counting.piles, self.splits) if len(split) > 1]

    def split_sizes(self):
        """The list of the sizes of the blocks that are split, in order."""
        return [pile.size for pile, _ in self.split_piles()]

    def divide(self, rows):
        """Puts sub-blocks of these sizes in place of the blocks that are split, and gives the new labels."""
        found = []
        for pile, split in zip(self.counting.piles, self.splits):
            if len(split) == 1:
                found.append(pile.part(split[0][0], pile.numbers, pile.size))
        for (pile, split), row in zip(self.split_piles(), rows):
            found.extend([pile.part(label, sub, size) for (label, sub), size in zip(split, row)])
        self.counting.piles = sorted(found, key=least_number)

    def twin(self):
        """An independent leading in the same state."""
        other = Leading(self.counting.twin())
        other.number = self.number
        other.asked = self.asked
        other.splits = self.splits
        return other


def whole_pile(contest, size):
    """The block at the beginning of a course: all markings, with so many ballots."""
    return Pile(tuple(range(len(contest.markings()))), size)


def begun(contest, votes):
    """The leading of a course of so many votes, at its first question or its end."""
    leading = Leading(Counting(contest, votes, [whole_pile(contest, votes)]))
    leading.go_on()
    return leading


def splits_of(counting, ask):
    """For each block, the list of the pairs of a new label and its sub-block that an ask makes of it."""
    markings = counting.contest.markings()
    found = []
    for pile in counting.piles:
        if ask.hits(pile):
            labels = [label_of(counting.contest, ask, markings[number]) for number in pile.numbers]
            found.append(split_block(pile.numbers, labels))
        else:
            found.append([(pile.label, pile.numbers)])
    return found


def part_of(pile, split):
    """The part of a question for a block that is split."""
    return (pile.numbers, tuple([label for label, _ in split]), tuple([sub for _, sub in split]))
