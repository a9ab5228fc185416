"""Seals: strings that stand for strings."""

from soleheld.errors import InvalidNumber
from soleheld.words import is_number

LEAST_MODULUS = 2
MOST_MODULUS = 10 ** 9
FIRST_SUM = 7


class Seal:
    """The base class of the four kinds of seals."""


class MadeSeal(Seal):
    """A made-up seal: it reckons with the codes of the characters, modulo a number."""

    def __init__(self, number):
        if not is_number(number, LEAST_MODULUS, MOST_MODULUS):
            raise InvalidNumber(number)
        self._modulus = number

    def of(self, text):
        """The seal of a string."""
        found = FIRST_SUM
        for sign in text:
            found = (31 * found + ord(sign) + 1) % self._modulus
        return str(found)


class WholeSeal(Seal):
    """Each string is its own seal."""

    def of(self, text):
        """The seal of a string."""
        return text


class FlatSeal(Seal):
    """All strings have one seal."""

    def of(self, text):
        """The seal of a string."""
        return "x"


class OwnSeal(Seal):
    """A function tells the seals."""

    def __init__(self, function):
        self._function = function

    def of(self, text):
        """The seal of a string."""
        function = self._function
        return function(text)
