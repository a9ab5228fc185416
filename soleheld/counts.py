"""Labels of ballots, and the plain count of a roll."""

from soleheld.copies import frozen
from soleheld.counting import Counting
from soleheld.piles import Pile
from soleheld.worths import index_of, is_less, worth


def top_label(contest, marking, stands):
    """The number of the candidate who is marked best among those who stand, -1 if none of them is marked."""
    best = -1
    for a in range(contest.many):
        if marking[a] > 0 and stands[a] and (best < 0 or is_ahead(contest, marking, a, best)):
            best = a
    return best


def is_ahead(contest, marking, a, b):
    """Whether a candidate has the greater mark than another one, or an equal one and the earlier place in the lot."""
    if marking[a] == marking[b]:
        return contest.place_of(a) < contest.place_of(b)
    return marking[a] > marking[b]


def from_label(mark, limit):
    """1 if a number is at least a worth, otherwise 0."""
    return 0 if is_less(worth(mark), limit) else 1


def over_label(first, second):
    """1, 0 or -1 if a number is greater than, equal to or less than another one."""
    if first == second:
        return 0
    return 1 if first > second else -1


def mark_at(marking, value):
    """The mark of the candidate for whom a worth stands, 0 if it stands for none."""
    at = index_of(value, len(marking))
    return marking[at] if at >= 0 else 0


def label_of(contest, ask, marking):
    """The new label that an ask gives the ballots with a marking."""
    word = ask.sorting[0]
    if word == "top":
        return top_label(contest, marking, ask.stands)
    mark = mark_at(marking, ask.worths[0])
    if word == "mark":
        return mark
    if word == "from":
        return from_label(mark, ask.worths[1])
    return over_label(mark, mark_at(marking, ask.worths[1]))


class Count:
    """What comes of counting: the history, the seats in the order in which they were given, and the end."""

    def __init__(self, history, seats, end):
        self.history = frozen(history)
        self.seats = frozen(seats)
        self.end = end

    def __eq__(self, other):
        return (isinstance(other, Count) and self.history == other.history and self.seats == other.seats
                and self.end == other.end)

    def __repr__(self):
        return f"Count({len(self.seats)} seats, {self.end})"


def plain_count(contest, roll):
    """The count of a roll, ballot by ballot."""
    contest.check_roll(roll)
    markings = contest.markings()
    counting = Counting(contest, len(roll), [Pile((contest.number_of(marking),), 1) for marking in roll])
    ask = counting.next_ask()
    while ask is not None:
        for pile in counting.piles:
            if ask.hits(pile):
                pile.label = label_of(contest, ask, markings[pile.numbers[0]])
        ask = counting.next_ask()
    return Count(counting.history, counting.seats, counting.end)
