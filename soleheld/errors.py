"""All errors of the package."""

from soleheld.copies import kept


class CountError(ValueError):
    """A value that is not as it must be."""


class InvalidName(CountError):
    """A value is no name."""

    def __init__(self, value):
        self.value = kept(value)
        self.code = "InvalidName"


class InvalidNumber(CountError):
    """A value is no number, or out of its range."""

    def __init__(self, value):
        self.value = kept(value)
        self.code = "InvalidNumber"


class InvalidNames(CountError):
    """The names of candidates are not as they must be."""

    def __init__(self, at):
        self.at = kept(at)
        self.code = "InvalidNames"


class InvalidLot(CountError):
    """A lot does not have each candidate once."""

    def __init__(self):
        self.code = "InvalidLot"


class InvalidRoll(CountError):
    """A roll is not a list of markings."""

    def __init__(self, at):
        self.at = kept(at)
        self.code = "InvalidRoll"


class InvalidEntry(CountError):
    """An item is no entry of minutes."""

    def __init__(self, at):
        self.at = kept(at)
        self.code = "InvalidEntry"


class InvalidText(CountError):
    """A text of minutes cannot be read."""

    def __init__(self, line, why):
        self.line = kept(line)
        self.why = kept(why)
        self.code = "InvalidText"


class BadRule(CountError):
    """A text of a rule cannot be read."""

    def __init__(self, line, what):
        self.line = kept(line)
        self.what = kept(what)
        self.code = "BadRule"


class Spoiled(CountError):
    """A ballot text cannot be read."""

    def __init__(self, ballot, why):
        self.ballot = kept(ballot)
        self.why = kept(why)
        self.code = "Spoiled"


class BadSizes(CountError):
    """A value is no answer to a question."""

    def __init__(self, number):
        self.number = kept(number)
        self.code = "BadSizes"


class BadStaff(CountError):
    """The persons over a bundle are not as they must be."""

    def __init__(self, bundle):
        self.bundle = kept(bundle)
        self.code = "BadStaff"


class TooMany(CountError):
    """There is more of something than a bound allows."""

    def __init__(self, what, most):
        self.what = kept(what)
        self.most = kept(most)
        self.code = "TooMany"


class Missing(LookupError):
    """Something that is asked for is not there."""


class NoName(Missing):
    """Nothing has this word as its name."""

    def __init__(self, word):
        self.word = kept(word)
        self.code = "NoName"


class TooLate(RuntimeError):
    """Something that is asked for cannot be done any more."""


class Ended(TooLate):
    """There is no further question."""

    def __init__(self):
        self.code = "Ended"


class Closed(TooLate):
    """A book is closed."""

    def __init__(self, place):
        self.place = kept(place)
        self.code = "Closed"
