"""Contests: candidates, a lot that breaks ties, and a rule."""

from soleheld.errors import InvalidLot, InvalidNames, InvalidRoll, Spoiled, TooMany
from soleheld.words import is_integer, is_name

LEAST_NAMES = 2
MOST_NAMES = 5
MOST_MARKINGS = 400
MOST_BALLOTS = 40


class Contest:
    """What is voted on. It never changes."""

    def __init__(self, names, lot, rule):
        check_candidates(names)
        check_lot(names, lot)
        self.names = tuple(names)
        self.lot = tuple(lot)
        self.rule = rule
        self.many = len(names)
        self._markings = rule.form.markings(self.many)
        if len(self._markings) > MOST_MARKINGS:
            raise TooMany("markings", MOST_MARKINGS)
        self._numbers = {marking: number for number, marking in enumerate(self._markings)}

    def markings(self):
        """The list of all markings, in ascending order."""
        return list(self._markings)

    def number_of(self, value):
        """The number of a marking, -1 for any other value."""
        # True and 1 would be the same key, but a tuple with True in it is no marking.
        if not isinstance(value, tuple) or not all([is_integer(mark) for mark in value]):
            return -1
        return self._numbers.get(value, -1)

    def place_of(self, number):
        """The place in the lot of the candidate with a number."""
        return self.lot.index(self.names[number])

    def written(self, marking):
        """The text of a marking."""
        return self.rule.form.written(self.names, marking)

    def read(self, text):
        """The marking with a text."""
        return self.rule.form.read(self.names, text)

    def check_roll(self, roll):
        """Refuses what is no roll of this contest."""
        if not isinstance(roll, (list, tuple)):
            raise InvalidRoll(-1)
        for at, value in enumerate(roll):
            if self.number_of(value) < 0:
                raise InvalidRoll(at)
        if len(roll) > MOST_BALLOTS:
            raise TooMany("ballots", MOST_BALLOTS)

    def __eq__(self, other):
        return (isinstance(other, Contest) and self.names == other.names and self.lot == other.lot
                and self.rule == other.rule)

    def __repr__(self):
        return f"Contest({self.rule.word}, {self.many} candidates)"


def check_candidates(names):
    """Refuses what is no list of different names, as many as a contest may have."""
    if not isinstance(names, (list, tuple)) or not LEAST_NAMES <= len(names) <= MOST_NAMES:
        raise InvalidNames(-1)
    for at, name in enumerate(names):
        if not is_name(name) or name in names[:at]:
            raise InvalidNames(at)


def check_lot(names, lot):
    """Refuses what does not have each name once and nothing else."""
    if not isinstance(lot, (list, tuple)) or len(lot) != len(names):
        raise InvalidLot()
    if any([name not in lot for name in names]):
        raise InvalidLot()


def marking_of(contest, text):
    """The marking with a text, None for any value that is spoiled."""
    try:
        return contest.read(text)
    except Spoiled:
        return None
