"""What the operators of expressions make of worths."""

from soleheld.worths import ZERO, is_less, minus, plus, product, quotient

ARITHMETIC = ("+", "-", "*", "/")


def calculated(sign, a, b):
    """The worth that an operator of arithmetic gives."""
    if sign == "+":
        return plus(a, b)
    if sign == "-":
        return minus(a, b)
    if sign == "*":
        return product(a, b)
    return quotient(a, b)


def holds(word, a, b):
    """Whether a comparison, an and or an or is so."""
    if word == "or":
        return a != ZERO or b != ZERO
    if word == "and":
        return a != ZERO and b != ZERO
    if word == "<":
        return is_less(a, b)
    if word == "<=":
        return not is_less(b, a)
    return a == b


def lesser(a, b):
    """The one of two worths that is not above the other."""
    return b if is_less(b, a) else a


def greater(a, b):
    """The one of two worths that is not below the other."""
    return b if is_less(a, b) else a
