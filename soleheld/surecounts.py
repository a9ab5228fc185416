"""Sure counts: seats that no variant of a roll can turn, found without going through the variants."""

from soleheld.branches import check_changes
from soleheld.leading import Leading, whole_pile
from soleheld.surecounting import SureCounting


def sure_count(contest, roll, *, changed=0, free=0):
    """The tuple of the seats that are sure for so many changed and free ballots, None if the count breaks off."""
    check_changes(contest, roll, changed, free)
    numbers = [contest.number_of(marking) for marking in roll]
    counting = SureCounting(contest, whole_pile(contest, len(roll)), changed, free)
    leading = Leading(counting)
    leading.go_on()
    while leading.asked is not None:
        leading.lead_on(leading.asked.answer_of(numbers))
    return tuple(counting.seats) if counting.end == "whole" else None


def firmness(contest, roll):
    """The greatest number of changed ballots for which, as for all fewer, the seats are sure; None if there is none."""
    contest.check_roll(roll)
    firm = None
    for changed in range(len(roll) + 1):
        if sure_count(contest, roll, changed=changed) is None:
            return firm
        firm = changed
    return firm
