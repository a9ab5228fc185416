"""Margins: the least change of a roll, and the least group, that can turn the seats."""

from soleheld.branches import branches, check_only
from soleheld.contests import MOST_BALLOTS
from soleheld.counts import plain_count
from soleheld.errors import BadStaff, InvalidNumber
from soleheld.words import is_number


def margin(contest, roll, *, most=None, only=None):
    """The least number of changed ballots with other seats, with the first such roll; None if there is none."""
    contest.check_roll(roll)
    if most is not None and not is_number(most, 0, MOST_BALLOTS):
        raise InvalidNumber(most)
    check_only(roll, only)
    seats = plain_count(contest, roll).seats
    for changed in range(1, bound_of(roll, most, only) + 1):
        found = turned_roll(contest, roll, seats, changed, 0, only)
        if found is not None:
            return (changed, found)
    return None


def bound_of(roll, most, only):
    """The greatest number of changed ballots that may be looked at."""
    open_ballots = len(roll) if only is None else len(set(only))
    return open_ballots if most is None else min(open_ballots, most)


def turned_roll(contest, roll, seats, changed, free, only):
    """The filled roll of the first branch with other seats than these, None if there is none."""
    for branch in branches(contest, roll, changed=changed, free=free, only=only):
        if branch.told.seats != seats:
            return list(branch.filled)
    return None


def least_group(contest, holdings, staff):
    """The first group that can bring about other seats, with holdings that do; None if there is none."""
    if not are_rolls(holdings) or len(holdings) != len(staff):
        raise BadStaff(-1)
    everything = [ballot for roll in holdings for ballot in roll]
    contest.check_roll(everything)
    seats = plain_count(contest, everything).seats
    most = len(staff.persons())
    tried = []
    for group in staff.groups(most):
        sole = staff.sole(group)
        # Groups that hold the same bundles alone can bring about the same.
        if sole not in tried:
            tried.append(sole)
            found = turned_holdings(contest, holdings, sole, seats)
            if found is not None:
                return (group, found)
    return None


def are_rolls(value):
    """Whether any value is a list of lists."""
    return isinstance(value, (list, tuple)) and all([isinstance(roll, (list, tuple)) for roll in value])


def turned_holdings(contest, holdings, sole, seats):
    """The first holdings with other seats that differ only in these bundles, None if there are none."""
    rest = [ballot for bundle, roll in enumerate(holdings) if bundle not in sole for ballot in roll]
    free = sum([len(holdings[bundle]) for bundle in sole])
    filled = turned_roll(contest, rest, seats, 0, free, None)
    if filled is None:
        return None
    found = [list(roll) for roll in holdings]
    at = len(rest)
    for bundle in sole:
        many = len(holdings[bundle])
        found[bundle] = filled[at:at + many]
        at += many
    return found
