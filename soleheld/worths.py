"""Worths: exact fractions as pairs in lowest terms."""

from math import gcd

from soleheld.words import is_figures, is_integer

LIMIT = (10 ** 50) ** 4
LIMIT_FIGURES = 200
ZERO = (0, 1)
ONE = (1, 1)


def worth(top, bottom=1):
    """The worth of two numbers; zero if the lower one is 0."""
    if bottom == 0:
        return ZERO
    common = gcd(top, bottom)
    if bottom < 0:
        common = -common
    return (top // common, bottom // common)


def is_worth(value):
    """Whether any value is a worth."""
    if not isinstance(value, tuple) or len(value) != 2 or not all([is_integer(number) for number in value]):
        return False
    return value[1] >= 1 and worth(value[0], value[1]) == value


def plus(a, b):
    """The sum of two worths."""
    return worth(a[0] * b[1] + b[0] * a[1], a[1] * b[1])


def minus(a, b):
    """The difference of two worths."""
    return worth(a[0] * b[1] - b[0] * a[1], a[1] * b[1])


def product(a, b):
    """The product of two worths."""
    return worth(a[0] * b[0], a[1] * b[1])


def quotient(a, b):
    """The quotient of two worths; zero if the second one is zero."""
    return worth(a[0] * b[1], a[1] * b[0])


def is_less(a, b):
    """Whether the first worth is less than the second one."""
    return a[0] * b[1] < b[0] * a[1]


def floor_of(a):
    """The greatest number that is not above a worth."""
    return a[0] // a[1]


def is_large(a):
    """Whether the numerator or the denominator of a worth is out of bounds."""
    return not -LIMIT < a[0] < LIMIT or a[1] >= LIMIT


def index_of(a, many):
    """The number of the candidate for which a worth stands, -1 if it is no index worth."""
    return a[0] if a[1] == 1 and 0 <= a[0] < many else -1


def number_text(number):
    """The decimal text of a number."""
    # Python refuses to write a very long number at once, so it is written in pieces.
    pieces = []
    rest = abs(number)
    while rest >= LIMIT:
        pieces.append(str(rest % LIMIT).zfill(LIMIT_FIGURES))
        rest = rest // LIMIT
    sign = "-" if number < 0 else ""
    figures = "".join(pieces[::-1])
    return f"{sign}{rest}{figures}"


def worth_text(a):
    """The text of a worth."""
    if a[1] == 1:
        return number_text(a[0])
    return f"{number_text(a[0])}/{number_text(a[1])}"


def is_short_number(text):
    """Whether a string has figures only, and no more than a worth that is read may have."""
    return is_figures(text) and len(text) <= LIMIT_FIGURES


def read_worth(text):
    """The worth that has this text, None for any value that is the text of none."""
    if not isinstance(text, str):
        return None
    top, line, bottom = text.removeprefix("-").partition("/")
    if line == "":
        bottom = "1"
    if not is_short_number(top) or not is_short_number(bottom):
        return None
    sign = -1 if text.startswith("-") else 1
    found = worth(sign * int(top), int(bottom))
    # Only the text that would be written is read: no zeros ahead, lowest terms, no denominator 1.
    return found if worth_text(found) == text else None
