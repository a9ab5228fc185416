"""Branches: all courses to which a roll leads when some of its ballots are changed and some are unknown."""

from soleheld.contests import MOST_BALLOTS
from soleheld.counts import Count
from soleheld.errors import InvalidNumber, TooMany
from soleheld.variants import Ground, VariantWalk
from soleheld.words import is_number

MOST_BRANCHES = 20000


class Branch:
    """A course that is led to its end by the sizes of a variant, made by branches alone."""

    def __init__(self, told, spent, last_sizes, filled, replies):
        self.told = told
        self.spent = spent
        self.last_sizes = last_sizes
        self.filled = filled
        self.replies = replies

    def __eq__(self, other):
        return isinstance(other, Branch) and self.replies == other.replies and self.filled == other.filled


def check_changes(contest, roll, changed, free):
    """Refuses what is no roll, and numbers of changed and free ballots that cannot be."""
    contest.check_roll(roll)
    for number in (changed, free):
        if not is_number(number, 0, MOST_BALLOTS):
            raise InvalidNumber(number)
    if len(roll) + free > MOST_BALLOTS:
        raise TooMany("ballots", MOST_BALLOTS)


def check_only(roll, only):
    """Refuses what is no list of numbers of ballots of a roll."""
    if only is not None:
        for ballot in only:
            if not is_number(ballot, 0, len(roll) - 1):
                raise InvalidNumber(ballot)


def branches(contest, roll, *, changed=0, free=0, only=None):
    """All branches of a roll, in order."""
    check_changes(contest, roll, changed, free)
    check_only(roll, only)
    ground = Ground(contest, roll, free, only)
    walk = VariantWalk(ground, changed)
    many = 0
    stand = walk.take()
    while stand is not None:
        if many == MOST_BRANCHES:
            raise TooMany("branches", MOST_BRANCHES)
        yield branch_at(stand, changed)
        many += 1
        stand = walk.take()


def branch_at(stand, changed):
    """The branch whose course is at its end."""
    counting = stand.leading.counting
    told = Count(counting.history, counting.seats, counting.end)
    sizes = tuple([pile.size for pile in counting.piles])
    return Branch(told, changed - stand.budget, sizes, stand.ground.filled_roll(counting.piles), stand.replies)


def reach(contest, roll, *, changed=0, free=0, only=None):
    """The list of the different counts of all branches, in the order in which they come."""
    found = {}
    for branch in branches(contest, roll, changed=changed, free=free, only=only):
        told = branch.told
        found.setdefault((told.history, told.seats, told.end), told)
    return list(found.values())
