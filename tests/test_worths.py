"""Worths, their arithmetic and their texts."""

import unittest
from fractions import Fraction

from soleheld.forms import One
from soleheld.worths import (LIMIT, floor_of, is_large, is_less, minus, plus, product, quotient, read_worth, worth,
                             worth_text)

SOME = [worth(top, bottom) for top in range(-7, 8) for bottom in range(1, 7)]


def pair(fraction):
    return (fraction.numerator, fraction.denominator)


class Making(unittest.TestCase):
    def test_lowest_terms(self):
        for top, bottom, found in ((6, 4, (3, 2)), (4, 2, (2, 1)), (5, 1, (5, 1)), (-6, 4, (-3, 2)), (6, -4, (-3, 2)),
                                   (-6, -4, (3, 2)), (10 ** 300, 10 ** 299, (10, 1))):
            self.assertEqual(worth(top, bottom), found)

    def test_zeros(self):
        for top, bottom in ((0, 1), (0, 5), (0, -5), (0, 0), (5, 0), (-5, 0)):
            self.assertEqual(worth(top, bottom), (0, 1))

    def test_default_and_names(self):
        self.assertEqual(worth(-7), (-7, 1))
        self.assertEqual(worth(top=2, bottom=6), (1, 3))
        self.assertEqual(worth(0), (0, 1))

    def test_limit(self):
        self.assertEqual(LIMIT, 10 ** 200)


class Arithmetic(unittest.TestCase):
    def test_against_fractions(self):
        for a in SOME:
            for b in SOME:
                first, second = Fraction(*a), Fraction(*b)
                self.assertEqual(plus(a, b), pair(first + second))
                self.assertEqual(minus(a, b), pair(first - second))
                self.assertEqual(product(a, b), pair(first * second))
                self.assertEqual(quotient(a, b), pair(first / second) if second else (0, 1))
                self.assertIs(is_less(a, b), first < second)

    def test_division_by_zero(self):
        for a in ((0, 1), (5, 1), (-2, 3)):
            self.assertEqual(quotient(a, (0, 1)), (0, 1))

    def test_by_name(self):
        self.assertEqual(minus(b=(1, 2), a=(1, 3)), (-1, 6))
        self.assertEqual(quotient(b=(-1, 2), a=(1, 3)), (-2, 3))
        self.assertIs(is_less(b=(1, 2), a=(1, 3)), True)
        self.assertEqual(plus(a=(1, 2), b=(1, 2)), (1, 1))
        self.assertEqual(product(a=(1, 2), b=(2, 1)), (1, 1))

    def test_floor(self):
        for a, found in (((7, 2), 3), ((-7, 2), -4), ((4, 1), 4), ((-4, 1), -4), ((0, 1), 0), ((-1, 9), -1),
                         ((1, 9), 0)):
            self.assertEqual(floor_of(a), found)

    def test_large(self):
        bound = 10 ** 200
        for a, said in (((bound, 1), True), ((bound - 1, 1), False), ((-bound, 1), True), ((1 - bound, 1), False),
                        ((bound + 1, 7), True), ((1, bound), True), ((1, bound - 1), False), ((-1, bound), True),
                        ((-1, bound + 1), True), ((-1, bound - 1), False), ((0, 1), False)):
            self.assertIs(is_large(a), said, a)


class Texts(unittest.TestCase):
    def test_written(self):
        for a, text in (((3, 1), "3"), ((-2, 1), "-2"), ((-1, 4), "-1/4"), ((0, 1), "0"), ((10, 3), "10/3")):
            self.assertEqual(worth_text(a), text)

    def test_written_at_any_length(self):
        top = 10 ** 6000 + 10 ** 250 + 1
        text = "1" + "0" * 5749 + "1" + "0" * 249 + "1"
        self.assertEqual(worth_text((top, 1)), text)
        self.assertEqual(worth_text((-1, top)), "-1/" + text)

    def test_read_what_is_written(self):
        ends = [(10 ** 200 - 1, 1), (1 - 10 ** 200, 1), (1, 10 ** 200 - 1), (10 ** 199, 10 ** 199 + 1)]
        for a in SOME + ends:
            self.assertEqual(read_worth(worth_text(a)), a)

    def test_wrong_texts(self):
        for text in ("", "-", "+3", "--3", "- 3", "-0", "00", "03", "-03", "1/03", "03/4", "2/4", "6/3", "3/1", "0/1",
                     "3/0", "0/0", "1/-2", "1/+2", "1/", "/2", "/", "1/2/3", " 1", "1 ", "1\n", "1/2\n", "1 /2",
                     "1.5", "a", "1e3", "1_000", "\u0661"):
            self.assertIsNone(read_worth(text), text)

    def test_digits(self):
        long = "1" * 200
        longer = "1" * 201
        self.assertEqual(read_worth(long), (int(long), 1))
        self.assertEqual(read_worth("-" + long), (-int(long), 1))
        self.assertEqual(read_worth("2/" + long), (2, int(long)))
        for text in (longer, "-" + longer, "2/" + longer, longer + "/2"):
            self.assertIsNone(read_worth(text), text)

    def test_values_that_are_no_strings(self):
        for value in (None, True, False, 3, (3, 1), [], ["3"], One()):
            self.assertIsNone(read_worth(value), value)

    def test_by_name(self):
        self.assertEqual(read_worth(text="1/2"), (1, 2))
