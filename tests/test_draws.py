"""Draws, risks, and how many ballots must be drawn."""

import unittest
from fractions import Fraction
from itertools import combinations

from helpers import SHELF, caught, contest_of, roll_of, rule_text, shelf_text
from reference import Maker
from soleheld.counts import plain_count
from soleheld.draws import differing, draws, least_draws, needed, risk
from soleheld.errors import CountError, InvalidNumber, InvalidRoll, TooMany
from soleheld.forms import One
from soleheld.margins import margin
from soleheld.surecounts import firmness

MOST = contest_of(shelf_text("most"))
PAIR = contest_of(shelf_text("most"), names=("ann", "bo"))
PLAIN = contest_of(rule_text("seat 1"))
BROKEN = contest_of(rule_text("times 20", "weigh 0 by 1", "end", "weigh 0 by 1"))
FIVE = contest_of(rule_text("each a", "let r[a] be 1", "end", "ask top r", "seat 1", form="one", row="r", num=""),
                  names=("ann", "bo", "cy", "dee"))
NO_NUMBERS = (None, True, False, -1, "1", (1,), [1], (1, 1), One())
NO_LIMITS = (None, True, 0, 1, "1", (1,), [1, 2], (1, 2, 3), (2, 4), (0, 2), (1, 0), (0, 0), (-1, 2), (1, -2), (-1, -2),
             (3, 2), (2, 1),
             (True, 1), (1, True), ("1", "2"), (1, None), ((1, 2),), -1, One(), (0, True))


class Risks(unittest.TestCase):
    def test_against_all_draws(self):
        for ballots in range(7):
            for unlike in range(ballots + 1):
                for drawn in range(ballots + 1):
                    found = list(combinations(range(ballots), drawn))
                    missing = [draw for draw in found if not any(number < unlike for number in draw)]
                    part = Fraction(len(missing), len(found))
                    self.assertEqual(risk(ballots, unlike, drawn), (part.numerator, part.denominator))

    def test_by_hand(self):
        for values, found in (((10, 0, 10), (1, 1)), ((10, 3, 0), (1, 1)), ((10, 3, 8), (0, 1)), ((10, 3, 7), (1, 120)),
                              ((0, 0, 0), (1, 1)), ((4, 2, 2), (1, 6)), ((40, 40, 1), (0, 1)), ((40, 1, 20), (1, 2)),
                              ((10, 5, 1), (1, 2)),
                              ((40, 20, 20), (1, 137846528820)), ((1, 1, 1), (0, 1)), ((1, 1, 0), (1, 1))):
            self.assertEqual(risk(*values), found, values)
        self.assertEqual(risk(drawn=2, unlike=2, ballots=4), (1, 6))

    def test_wrong_numbers(self):
        for value in (*NO_NUMBERS, 41):
            self.assertEqual(caught(InvalidNumber, risk, value, -2, -3), (value,))
        for value in (*NO_NUMBERS, 6):
            self.assertEqual(caught(InvalidNumber, risk, 5, value, -3), (value,))
            self.assertEqual(caught(InvalidNumber, risk, 5, 5, value), (value,))
        self.assertIsNone(caught(CountError, risk, 40, 40, 40))


class LeastDraws(unittest.TestCase):
    def test_against_risks(self):
        limits = [(0, 1), (1, 1), (1, 2), (1, 3), (1, 20), (1, 1000), (19, 20), (2, 3)]
        for ballots in range(9):
            for unlike in range(ballots + 1):
                for limit in limits:
                    fitting = [drawn for drawn in range(ballots + 1)
                               if Fraction(*risk(ballots, unlike, drawn)) <= Fraction(*limit)]
                    self.assertEqual(least_draws(ballots, unlike, limit), fitting[0] if fitting else None)

    def test_by_hand(self):
        for values, found in (((10, 0, (1, 1)), 0), ((10, 0, (99, 100)), None), ((10, 0, (0, 1)), None),
                              ((10, 3, (0, 1)), 8),
                              ((10, 10, (0, 1)), 1), ((10, 3, (1, 1)), 0), ((10, 1, (1, 2)), 5), ((10, 1, (1, 10)), 9),
                              ((0, 0, (1, 1)), 0), ((0, 0, (1, 2)), None), ((40, 4, (1, 10)), 17), ((10, 3, (1, 120)), 7),
                              ((10, 3, (1, 121)), 8)):
            self.assertEqual(least_draws(*values), found, values)
        self.assertEqual(least_draws(limit=(1, 120), unlike=3, ballots=10), 7)

    def test_wrong_values(self):
        for value in (*NO_NUMBERS, 41):
            self.assertEqual(caught(InvalidNumber, least_draws, value, -2, -3), (value,))
        for value in (*NO_NUMBERS, 6):
            self.assertEqual(caught(InvalidNumber, least_draws, 5, value, -3), (value,))
        for value in NO_LIMITS:
            self.assertEqual(caught(InvalidNumber, least_draws, 5, 2, value), (value,), value)


class Draws(unittest.TestCase):
    def test_all_draws(self):
        for ballots in range(7):
            for drawn in range(ballots + 1):
                found = list(draws(ballots, drawn))
                self.assertEqual(found, sorted(combinations(range(ballots), drawn)))
                self.assertTrue(all(type(draw) is tuple for draw in found))
        self.assertEqual(list(draws(drawn=2, ballots=3)), [(0, 1), (0, 2), (1, 2)])
        self.assertEqual(list(draws(5, 0)), [()])
        self.assertEqual(list(draws(40, 40)), [tuple(range(40))])

    def test_too_many(self):
        """C(40, 3) is 9880, C(40, 4) is 91390; C(28, 4) is 20475, C(27, 4) is 17550."""
        for ballots, drawn, many in ((40, 3, 9880), (27, 4, 17550), (28, 4, None), (40, 4, None), (40, 37, 9880),
                                     (40, 36, None), (16, 8, 12870),
                                     (17, 8, None), (17, 6, 12376), (18, 6, 18564), (19, 6, None), (40, 20, None),
                                     (20, 5, 15504),
                                     (21, 5, None)):
            if many is None:
                made = draws(ballots, drawn)
                self.assertEqual(caught(TooMany, next, made), ("draws", 20000))
            else:
                self.assertEqual(len(list(draws(ballots, drawn))), many)

    def test_wrong_numbers(self):
        for value in (*NO_NUMBERS, 41):
            self.assertEqual(caught(InvalidNumber, next, draws(value, -2)), (value,))
        for value in (*NO_NUMBERS, 29):
            self.assertEqual(caught(InvalidNumber, next, draws(28, value)), (value,))

    def test_at_the_first_item(self):
        for values in ((41, 0), (5, 6), (40, 20)):
            made = draws(*values)
            with self.assertRaises(CountError):
                next(made)

    def test_differing(self):
        first, second = roll_of(MOST, "ann", "bo", "cy", "-"), roll_of(MOST, "ann", "cy", "cy", "ann")
        for draw, found in (((), []), ((0,), []), ((1,), [1]), ((0, 1, 2, 3), [1, 3]), ((0, 2), []), ((2, 3), [3]),
                            ([1, 3], [1, 3])):
            self.assertEqual(differing(first, second, draw), found)
            self.assertEqual(differing(tuple(second), tuple(first), draw), found)
        self.assertEqual(differing(draw=(1,), roll=second, records=first), [1])
        self.assertEqual(differing([], [], ()), [])
        self.assertIs(type(differing(first, second, (1,))), list)

    def test_the_fact(self):
        """If the seats are others, at most the risk of all draws finds no difference."""
        compared = 0
        for seed in range(60):
            maker = Maker(seed)
            records, roll = [[maker.one_of(PAIR.markings()) for _ in range(6)] for _ in range(2)]
            if plain_count(PAIR, records).seats == plain_count(PAIR, roll).seats:
                continue
            least = margin(PAIR, records)[0]
            firm = firmness(PAIR, records)
            for drawn in range(7):
                everything = list(draws(6, drawn))
                blind = Fraction(sum(differing(records, roll, draw) == [] for draw in everything), len(everything))
                self.assertLessEqual(blind, Fraction(*risk(6, least, drawn)))
                self.assertLessEqual(blind, Fraction(*risk(6, firm + 1, drawn)))
            compared += 1
        self.assertGreater(compared, 10)


class Needed(unittest.TestCase):
    LIMIT = (1, 10)

    def test_by_margins(self):
        many = 0
        for seed in range(60):
            maker = Maker(seed)
            contest = contest_of(shelf_text(sorted(SHELF)[seed % len(SHELF)]), names=("ann", "bo"))
            records = [maker.one_of(contest.markings()) for _ in range(maker.random.randrange(7))]
            told = margin(contest, records)
            for limit in ((1, 10), (0, 1), (1, 2), (1, 1)):
                expected = 0 if told is None else least_draws(len(records), told[0], limit)
                self.assertEqual(needed(contest, records, limit), expected)
                many += expected > 1
        self.assertGreater(many, 40)

    def test_quick(self):
        found = {}
        for seed in range(60):
            maker = Maker(seed)
            word = ("most", "ticked", "rounds", "levels")[seed % 4]
            contest = contest_of(shelf_text(word), names=("ann", "bo"))
            records = [contest.markings()[-1]] * maker.random.randrange(9) + [maker.one_of(contest.markings())] * (seed % 3)
            firm = firmness(contest, records)
            for limit in ((1, 10), (0, 1), (1, 2), (1, 1)):
                expected = 0 if firm == len(records) else least_draws(len(records), firm + 1, limit)
                self.assertEqual(needed(contest, records, limit, quick=True), expected)
                found[expected, needed(contest, records, limit)] = True
        self.assertGreater(len(found), 10)

    def test_by_hand(self):
        records = roll_of(PAIR, *["ann"] * 5, "bo")
        self.assertEqual((margin(PAIR, records)[0], firmness(PAIR, records)), (3, 2))
        # With three unlike ballots of six: 1/2, then 1/5, then 1/20.
        for limit, draw in (((1, 1), 0), ((1, 2), 1), ((1, 5), 2), ((1, 6), 3), ((1, 20), 3), ((1, 21), 4), ((0, 1), 4)):
            self.assertEqual(needed(PAIR, records, limit), draw)
            self.assertEqual(needed(PAIR, records, limit, quick=True), draw)
        records = roll_of(PAIR, *["ann"] * 4, "bo", "bo")
        self.assertEqual((margin(PAIR, records)[0], firmness(PAIR, records)), (2, 1))
        self.assertEqual(needed(quick=False, limit=(1, 6), records=tuple(records), contest=PAIR), least_draws(6, 2, (1, 6)))
        self.assertEqual(needed(quick=True, limit=(1, 6), records=tuple(records), contest=PAIR), least_draws(6, 2, (1, 6)))

    def test_a_firmness_that_is_less_than_the_margin(self):
        # The sure count compares a worth with itself, and so nothing is firm.
        contest = contest_of(shelf_text("divisors"), names=("ann", "bo"))
        records = roll_of(contest, *["ann"] * 6)
        self.assertEqual((margin(contest, records)[0], firmness(contest, records)), (4, 0))
        self.assertEqual(needed(contest, records, (1, 4)), least_draws(6, 4, (1, 4)))
        self.assertEqual(needed(contest, records, (1, 4), quick=True), least_draws(6, 1, (1, 4)))
        self.assertNotEqual(least_draws(6, 4, (1, 4)), least_draws(6, 1, (1, 4)))

    def test_no_margin(self):
        for limit in ((0, 1), (1, 2), (1, 1)):
            self.assertEqual(needed(PLAIN, roll_of(PLAIN, "ann", "bo"), limit), 0)
            self.assertEqual(needed(PLAIN, [], limit), 0)
            self.assertEqual(needed(MOST, [], limit), 0)

    def test_all_are_firm(self):
        for limit in ((0, 1), (1, 2), (1, 1)):
            self.assertEqual(needed(PLAIN, roll_of(PLAIN, "ann", "bo"), limit, quick=True), 0)
            self.assertEqual(needed(PLAIN, [], limit, quick=True), 0)

    def test_no_firmness(self):
        records = roll_of(BROKEN, "ann", "bo")
        self.assertIsNone(firmness(BROKEN, records))
        for limit in ((0, 1), (1, 2), (1, 1)):
            self.assertIsNone(needed(BROKEN, records, limit, quick=True))
            self.assertIsNone(needed(BROKEN, [], limit, quick=True))
            self.assertEqual(needed(BROKEN, records, limit), 0)

    def test_errors(self):
        for quick in (False, True):
            for records, at in ((None, -1), (7, -1), ([None], 0), ([(1, 0, 0), (2, 0, 0)], 1)):
                self.assertEqual(caught(InvalidRoll, needed, MOST, records, None, quick=quick), (at,))
            self.assertEqual(caught(TooMany, needed, MOST, [(1, 0, 0)] * 41, None, quick=quick), ("ballots", 40))
            for limit in NO_LIMITS:
                self.assertEqual(caught(InvalidNumber, needed, MOST, [(1, 0, 0)], limit, quick=quick), (limit,))
                # The limit is looked at also if there is no margin, no firmness, or nothing to draw.
                self.assertEqual(caught(InvalidNumber, needed, PLAIN, [], limit, quick=quick), (limit,))
                self.assertEqual(caught(InvalidNumber, needed, BROKEN, [], limit, quick=quick), (limit,))

    def test_too_many_branches(self):
        records = [(1, 0, 0, 0), (0, 1, 0, 0), (0, 0, 1, 0), (0, 0, 0, 1), (0, 0, 0, 0)] * 8
        # Ahead of the limit; and quick needs no branches.
        self.assertEqual(caught(TooMany, needed, FIVE, records, None), ("branches", 20000))
        self.assertEqual(needed(FIVE, records, (1, 2), quick=True), 0)

    def test_arguments_stay(self):
        records = roll_of(PAIR, "ann", "bo", "ann")
        before = list(records)
        needed(PAIR, records, (1, 2))
        needed(PAIR, records, (1, 2), quick=True)
        self.assertEqual(records, before)
