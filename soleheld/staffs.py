"""Staffs: which persons sit over which bundles."""

from itertools import combinations

from soleheld.errors import BadStaff, NoName, TooMany
from soleheld.words import is_name

MOST_BUNDLES = 12
MOST_PERSONS = 8
MOST_OVER = 4


class Staff:
    """The persons over each bundle. It never changes."""

    def __init__(self, *lists):
        if len(lists) > MOST_BUNDLES:
            raise TooMany("bundles", MOST_BUNDLES)
        for bundle, row in enumerate(lists):
            if not is_team(row):
                raise BadStaff(bundle)
        self._lists = [tuple(row) for row in lists]
        self._persons = without_doubles([person for row in lists for person in row])
        if len(self._persons) > MOST_PERSONS:
            raise TooMany("persons", MOST_PERSONS)

    def over(self, bundle):
        """The tuple of the persons over a bundle."""
        return self._lists[bundle]

    def persons(self):
        """The list of all persons, in the order in which they first occur."""
        return list(self._persons)

    def bundles_of(self, person):
        """The ascending list of the bundles over which a person sits."""
        if person not in self:
            raise NoName(person)
        return [bundle for bundle, row in enumerate(self._lists) if person in row]

    def sole(self, group):
        """The ascending list of the bundles over which nobody sits but those in a list of names."""
        return [bundle for bundle, row in enumerate(self._lists) if all([person in group for person in row])]

    def groups(self, most):
        """All groups of so many persons at most, smaller ones first."""
        for size in range(min(most, len(self._persons)) + 1):
            for group in groups_of(self.persons(), size):
                yield group

    def is_safe(self, most):
        """Whether no bundle is sole-held by a group of so many persons at most."""
        return all([len(row) > most for row in self._lists])

    def __contains__(self, name):
        return isinstance(name, str) and name in self._persons

    def __len__(self):
        return len(self._lists)

    def __bool__(self):
        return True

    def __eq__(self, other):
        return isinstance(other, Staff) and self._lists == other._lists


def is_team(value):
    """Whether any value is a list of different names, as many as may sit over a bundle."""
    if not isinstance(value, (list, tuple)) or not 1 <= len(value) <= MOST_OVER:
        return False
    return all([is_name(person) and person not in value[:at] for at, person in enumerate(value)])


def without_doubles(names):
    """The list of the different ones of a list of names, in the order in which they first occur."""
    return [name for at, name in enumerate(names) if name not in names[:at]]


def groups_of(persons, size):
    """The list of all groups of a size, in ascending order of the indexes of their persons."""
    return list(combinations(persons, size))
