"""Spans, against the worths of their ends and worths between."""

import unittest
from fractions import Fraction

from soleheld.errors import CountError, InvalidNumber
from soleheld.spans import Span, point
from soleheld.worths import LIMIT, worth

ENDS = [Fraction(top, bottom) for top, bottom in ((-3, 1), (-3, 2), (-1, 1), (-1, 3), (0, 1), (1, 2), (1, 1), (5, 2))]
PAIRS = [(low, high) for low in ENDS for high in ENDS if low <= high]


def pair(value):
    return (value.numerator, value.denominator)


def span(low, high):
    return Span(pair(Fraction(low)), pair(Fraction(high)))


def ends(value):
    return (Fraction(*value.low), Fraction(*value.high))


def inside(low, high):
    """The ends of a span, and worths between."""
    steps = {low + (high - low) * Fraction(step, 12) for step in range(13)}
    return sorted(steps | {Fraction(0)}) if low <= 0 <= high else sorted(steps)


class Making(unittest.TestCase):
    def test_attributes(self):
        made = Span((-1, 2), (3, 1))
        self.assertEqual((made.low, made.high), ((-1, 2), (3, 1)))
        self.assertEqual(Span(high=(3, 1), low=(-1, 2)), made)
        self.assertEqual((Span((0, 1), (0, 1)).low, Span((0, 1), (0, 1)).high), ((0, 1), (0, 1)))

    def test_an_end_that_is_too_low(self):
        for low, high in (((1, 1), (0, 1)), ((1, 2), (1, 3)), ((-1, 3), (-1, 2)), ((LIMIT, 1), (LIMIT - 1, 1))):
            with self.assertRaises(InvalidNumber) as error:
                Span(low, high)
            self.assertEqual(error.exception.value, high)
            self.assertIsInstance(error.exception, CountError)

    def test_point(self):
        for value in ((0, 1), (-7, 3), (LIMIT, 1)):
            self.assertEqual((point(value).low, point(value).high), (value, value))
        self.assertIs(type(point(value=(1, 2))), Span)
        self.assertTrue(point((1, 2)).single())

    def test_single(self):
        self.assertIs(Span((1, 2), (1, 2)).single(), True)
        self.assertIs(Span((0, 1), (0, 1)).single(), True)
        self.assertIs(Span((1, 3), (1, 2)).single(), False)

    def test_equal(self):
        made = Span((0, 1), (1, 2))
        self.assertTrue(made == Span((0, 1), (1, 2)))
        for other in (Span((0, 1), (1, 1)), Span((-1, 1), (1, 2)), point((0, 1)), (0, 1), ((0, 1), (1, 2)), None, "0..1/2"):
            self.assertFalse(made == other)
            self.assertTrue(made != other)

    def test_text(self):
        for low, high, text in (((1, 2), (1, 2), "1/2"), ((0, 1), (1, 1), "0..1"), ((-1, 4), (3, 1), "-1/4..3"),
                                ((-2, 1), (-2, 1), "-2"), ((0, 1), (0, 1), "0"), ((-5, 3), (-1, 3), "-5/3..-1/3")):
            self.assertEqual(str(Span(low, high)), text)

    def test_in(self):
        for low, high in PAIRS:
            for value in ENDS:
                self.assertIs(pair(value) in span(low, high), low <= value <= high)


class Operations(unittest.TestCase):
    def against(self, found, results):
        """The ends of a span are the least and the greatest of these results."""
        self.assertEqual(ends(found), (min(results), max(results)))

    def test_sums_differences_products(self):
        for first in PAIRS:
            for second in PAIRS:
                a, b = span(*first), span(*second)
                both = [(x, y) for x in first for y in second]
                self.against(a + b, [x + y for x, y in both])
                self.against(a - b, [x - y for x, y in both])
                self.against(a * b, [x * y for x, y in both])
                self.assertEqual(ends(a - b), (first[0] - second[1], first[1] - second[0]))
                self.assertEqual((ends(a), ends(b)), (first, second))

    def test_worths_between(self):
        for first in PAIRS[::3]:
            for second in PAIRS[::2]:
                a, b = span(*first), span(*second)
                for x in inside(*first)[::3]:
                    for y in inside(*second)[::3]:
                        self.assertIn(pair(x + y), a + b)
                        self.assertIn(pair(x - y), a - b)
                        self.assertIn(pair(x * y), a * b)
                        self.assertIn(pair(min(x, y)), a.least(b))
                        self.assertIn(pair(max(x, y)), a.greatest(b))

    def test_quotients(self):
        kinds = set()
        for first in PAIRS:
            for second in PAIRS:
                a, b = span(*first), span(*second)
                found = a.over(b)
                if second == (0, 0):
                    kinds.add("zero")
                    self.assertEqual(ends(found), (0, 0))
                elif second[0] <= 0 <= second[1]:
                    kinds.add("open")
                    self.assertIsNone(found)
                else:
                    kinds.add("ends")
                    self.against(found, [x / y for x in first for y in second])
                    for x in inside(*first)[::4]:
                        self.assertIn(pair(x / inside(*second)[5 if second[0] < second[1] else 0]), found)
        self.assertEqual(kinds, {"zero", "open", "ends"})
        self.assertEqual(span(1, 2).over(other=span(4, 8)), span(Fraction(1, 8), Fraction(1, 2)))

    def test_open_quotients(self):
        for low, high in ((-1, 1), (0, 1), (-1, 0), (Fraction(-1, 9), 5)):
            self.assertIsNone(span(1, 1).over(span(low, high)))
            # Also zero by a span that holds zero is open.
            self.assertIsNone(span(0, 0).over(span(low, high)))
        self.assertEqual(span(-2, 3).over(point((0, 1))), point((0, 1)))

    def test_floor(self):
        for low, high in PAIRS:
            self.assertEqual(ends(span(low, high).floor()), (low // 1, high // 1))

    def test_least_and_greatest(self):
        for first in PAIRS:
            for second in PAIRS:
                a, b = span(*first), span(*second)
                self.assertEqual(ends(a.least(b)), (min(first[0], second[0]), min(first[1], second[1])))
                self.assertEqual(ends(a.greatest(b)), (max(first[0], second[0]), max(first[1], second[1])))
        self.assertEqual(span(0, 3).least(other=span(1, 2)), span(0, 2))
        self.assertEqual(span(0, 3).greatest(other=span(1, 2)), span(1, 3))

    def test_great_numbers(self):
        great = Span(worth(1 - LIMIT), worth(LIMIT))
        self.assertEqual(great * great, Span(worth(LIMIT * (1 - LIMIT)), worth(LIMIT * LIMIT)))
        self.assertEqual(great + great, Span(worth(2 - 2 * LIMIT), worth(2 * LIMIT)))


class Comparisons(unittest.TestCase):
    def told(self, answers):
        """True, False or None for the answers that all pairs of worths give."""
        return answers.pop() if len(answers) == 1 else None

    def test_against_all_pairs(self):
        kinds = {"below": set(), "at_most": set(), "same": set()}
        for first in PAIRS:
            for second in PAIRS:
                a, b = span(*first), span(*second)
                # Ends of the other span that lie within belong to the worths that could agree.
                xs = inside(*first) + [y for y in second if first[0] <= y <= first[1]]
                ys = inside(*second) + [x for x in first if second[0] <= x <= second[1]]
                both = [(x, y) for x in xs for y in ys]
                for name, found, answers in (("below", a.below(b), {x < y for x, y in both}),
                                             ("at_most", a.at_most(b), {x <= y for x, y in both}),
                                             ("same", a.same(b), {x == y for x, y in both})):
                    kinds[name].add(found)
                    self.assertIs(found, self.told(answers), (name, first, second))
        self.assertEqual(set(map(frozenset, kinds.values())), {frozenset({True, False, None})})

    def test_single_ones(self):
        self.assertIs(span(2, 2).same(other=span(2, 2)), True)
        self.assertIs(span(1, 2).same(span(1, 2)), None)
        self.assertIs(span(1, 2).same(span(3, 4)), False)
        self.assertIs(span(1, 2).below(other=span(2, 4)), None)
        self.assertIs(span(1, 2).at_most(other=span(2, 4)), True)
        self.assertIs(span(2, 4).below(span(1, 2)), False)
        self.assertIs(span(2, 4).at_most(span(1, 2)), None)

    def test_truth(self):
        for low, high in PAIRS:
            expected = False if low == high == 0 else None if low <= 0 <= high else True
            self.assertIs(span(low, high).truth(), expected)
