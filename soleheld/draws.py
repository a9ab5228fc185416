"""Draws: recounts of some ballots, with the risk that they find nothing."""

from itertools import combinations
from math import comb

from soleheld.contests import MOST_BALLOTS
from soleheld.errors import InvalidNumber, TooMany
from soleheld.margins import margin
from soleheld.surecounts import firmness
from soleheld.words import is_number
from soleheld.worths import ONE, ZERO, is_less, is_worth, worth

MOST_DRAWS = 20000


def check_parts(ballots, *parts):
    """Refuses what is no number of ballots, and what is no number of some of them."""
    if not is_number(ballots, 0, MOST_BALLOTS):
        raise InvalidNumber(ballots)
    for part in parts:
        if not is_number(part, 0, ballots):
            raise InvalidNumber(part)


def check_limit(limit):
    """Refuses what is no worth from 0 to 1."""
    if not is_worth(limit) or is_less(limit, ZERO) or is_less(ONE, limit):
        raise InvalidNumber(limit)


def risk(ballots, unlike, drawn):
    """The part of all draws of so many ballots that meets none of those that are unlike."""
    check_parts(ballots, unlike, drawn)
    return worth(comb(ballots - unlike, drawn), comb(ballots, drawn))


def least_draws(ballots, unlike, limit):
    """The least number of drawn ballots for which the risk is within a limit, None if there is none."""
    check_parts(ballots, unlike)
    check_limit(limit)
    for drawn in range(ballots + 1):
        if not is_less(limit, risk(ballots, unlike, drawn)):
            return drawn
    return None


def draws(ballots, drawn):
    """All draws of so many ballots, in ascending order."""
    check_parts(ballots, drawn)
    if comb(ballots, drawn) > MOST_DRAWS:
        raise TooMany("draws", MOST_DRAWS)
    for draw in draw_list(ballots, drawn):
        yield draw


def draw_list(ballots, drawn):
    """The ascending list of all draws of so many ballots."""
    return list(combinations(range(ballots), drawn))


def differing(records, roll, draw):
    """The list of the numbers of a draw at which two rolls differ."""
    return [number for number in draw if records[number] != roll[number]]


def needed(contest, records, limit, *, quick=False):
    """The least number of drawn ballots that finds records with other seats, but for a risk within a limit."""
    unlike = firm_change(contest, records) if quick else least_change(contest, records)
    check_limit(limit)
    if unlike is None:
        return None
    return least_draws(len(records), unlike, limit) if unlike > 0 else 0


def least_change(contest, records):
    """The margin of records, 0 if there is none."""
    found = margin(contest, records)
    return 0 if found is None else found[0]


def firm_change(contest, records):
    """One more than the firmness of records, 0 if no change can turn them, None if there is no firmness."""
    firm = firmness(contest, records)
    if firm is None:
        return None
    return 0 if firm == len(records) else firm + 1
