"""Sure counts and firmness."""

import unittest

from helpers import SHELF, caught, contest_of, roll_of, rule_text, shelf_text
from reference import Maker
from reference_sure import Sure, variants
from soleheld.contests import Contest
from soleheld.counts import plain_count
from soleheld.errors import InvalidNumber, InvalidRoll, TooMany
from soleheld.forms import Lists, One, Points, Ranks, Ticks
from soleheld.margins import margin
from soleheld.surecounts import firmness, sure_count

FORMS = (One(), Ticks(), Points(2), Ranks(), Lists(2))
NAMES = ("ann", "bo", "cy")
MOST = contest_of(shelf_text("most"))
# With one changed ballot the number n is from 0 to 2, as many as ballots for the first candidate may be.
SPREAD = ("let free[0] be 1", "ask top free", "tally score", "let n be score[0]")


def sure(*body, ballots=("ann",), changed=1, free=0, form="one", seats=5, **more):
    """The sure seats of a rule with these statements."""
    contest = contest_of(rule_text(*body, form=form, seats=seats, **more))
    return sure_count(contest, roll_of(contest, *ballots), changed=changed, free=free)


class Settings(unittest.TestCase):
    """Rules, contests and rolls that are made by numbers."""

    def made(self, seed):
        maker = Maker(seed)
        names = NAMES[:maker.one_of((2, 3))]
        contest = Contest(names, maker.random.sample(names, len(names)), maker.rule(maker.one_of(FORMS)))
        return maker, contest, maker.roll(contest)

    def from_the_shelf(self, seed):
        maker = Maker(seed)
        word, seats = maker.one_of(sorted(SHELF)), maker.one_of((1, 2, 3))
        names = NAMES[:maker.one_of((2, 3))]
        contest = contest_of(shelf_text(word, seats), names, maker.random.sample(names, len(names)))
        return maker, contest, maker.roll(contest)

    def test_against_a_second_reading(self):
        told = {}
        for make in (self.made, self.from_the_shelf):
            for seed in range(7000, 7400):
                maker, contest, roll = make(seed)
                changed, free = maker.one_of((0, 0, 1, 2, 5)), maker.one_of((0, 0, 1, 3))
                other = Sure(contest, roll, changed, free)
                self.assertEqual(sure_count(contest, roll, changed=changed, free=free), other.result(), seed)
                told[other.why] = told.get(other.why, 0) + 1
        self.assertGreater(told[None], 300)
        self.assertGreater(sum(told.values()) - told[None], 100)

    def test_against_all_variants(self):
        """Each variant whose count ends with `whole` has the seats that are sure."""
        compared = {}
        for make in (self.made, self.from_the_shelf):
            for seed in range(8000, 8500):
                maker, contest, roll = make(seed)
                roll, changed, free = roll[:4], maker.one_of((0, 1, 1, 2)), maker.one_of((0, 0, 1))
                seats = sure_count(contest, roll, changed=changed, free=free)
                if seats is None or len(contest.markings()) ** (changed + free) > 300:
                    continue
                for variant in variants(contest, roll, changed, free):
                    count = plain_count(contest, list(variant))
                    self.assertIn(seats, (count.seats, seats if count.end != "whole" else None))
                word = contest.rule.word
                compared[word] = compared.get(word, 0) + (changed + free > 0)
        self.assertGreater(compared["made"], 50)
        self.assertEqual(set(compared) - {"made"}, set(SHELF))

    def test_larger_rolls_of_the_shelf(self):
        """Seats that are sure though ballots are changed."""
        for word in ("most", "ticked", "points", "places", "rounds", "transfer", "pairs"):
            contest = contest_of(shelf_text(word), names=NAMES[:2])
            first = "ann 2" if word == "points" else "ann"
            roll = roll_of(contest, *[first] * 7)
            self.assertEqual(sure_count(contest, roll, changed=1), (0,), word)
            self.assertEqual(sure_count(contest, roll, free=2), (0,), word)
            for variant in variants(contest, roll, 1, 1):
                self.assertEqual(plain_count(contest, variant).seats, (0,))

    def test_a_number_that_is_compared_with_itself(self):
        """Three rules of the shelf compare a worth with itself: as a span this is open, unless it is single."""
        for word in ("levels", "divisors", "rests"):
            contest = contest_of(shelf_text(word), names=NAMES[:2])
            roll = roll_of(contest, *["ann 2" if word == "levels" else "ann"] * 7)
            self.assertEqual(sure_count(contest, roll), (0,))
            self.assertEqual([sure_count(contest, roll, changed=1), sure_count(contest, roll, free=1)], [None, None])
            self.assertEqual(firmness(contest, roll), 0)

    def test_none_changed_and_none_free(self):
        ends = set()
        for make in (self.made, self.from_the_shelf):
            for seed in range(9000, 9400):
                _, contest, roll = make(seed)
                count = plain_count(contest, roll)
                ends.add(count.end)
                self.assertEqual(sure_count(contest, roll), count.seats if count.end == "whole" else None)
        self.assertEqual(ends, {"whole", "digits", "weighs"})

    def test_less_changed(self):
        many = 0
        for make in (self.made, self.from_the_shelf):
            for seed in range(9500, 9700):
                maker, contest, roll = make(seed)
                free = maker.one_of((0, 1, 4))
                found = [sure_count(contest, roll, changed=changed, free=free) for changed in range(4)]
                for less, more in zip(found, found[1:]):
                    self.assertIn(more, (less, None))
                    many += more is not None
        self.assertGreater(many, 200)


class BreakingOff(unittest.TestCase):
    def both(self, *body, seats=(), **more):
        """With one changed ballot the count breaks off; with none it does not."""
        self.assertIsNone(sure(*SPREAD, *body, changed=1, **more), body)
        self.assertEqual(sure(*SPREAD, *body, changed=0, **more), seats, body)

    def test_the_spread(self):
        # Nothing that follows would tell anything if the number were not from 0 to 2.
        self.assertEqual(sure(*SPREAD, "if n <= 2 and 0 <= n", "seat 1", "end"), (1,))
        self.assertIsNone(sure(*SPREAD, "if n < 2", "seat 1", "end"))
        self.assertIsNone(sure(*SPREAD, "if 0 < n", "seat 1", "end"))

    def test_quotients(self):
        self.both("let x be 1 / n")
        self.both("tell 0 / n")
        self.both("let x be 1 / (n - 1)")
        self.assertEqual(sure(*SPREAD, "let x be 1 / (n + 1)", "let x be n / 0", "seat x"), (0,))

    def test_tests(self):
        self.both("if n", "seat 1", "end", seats=(1,))
        self.both("if n", "end")
        self.both("if 1 < n", "seat 1", "else", "seat 2", "end", seats=(2,))
        self.both("if n = 1", "end")
        self.both("if not n", "end")
        self.both("if n and 1", "end")
        self.both("if n or 0", "end")
        self.assertEqual(sure(*SPREAD, "if n + 1", "seat 1", "end", "if n and 0", "else", "seat 2", "end",
                              "if n or 1", "seat 0", "end", "if not (n + 1)", "seat 0", "end"), (1, 2, 0))

    def test_open_truths_go_on_as_spans(self):
        # An open truth is the span from 0 to 1; only a test asks for more.
        self.assertEqual(sure(*SPREAD, "let x be n and 1", "if x <= 1 and 0 <= x", "seat 1", "end"), (1,))
        self.assertEqual(sure(*SPREAD, "let x be (n < 1) + 1", "if 1 <= x and x <= 2", "seat 1", "end"), (1,))
        self.assertEqual(sure(*SPREAD, "if (n = 1) + (not n) <= 2", "seat 2", "end"), (2,))

    def test_worths_of_top(self):
        self.both("let free[1] be n", "ask top free")
        self.both("let free[2] be n", "ask top free where 7")
        self.both("let free[2] be 0 - n", "ask top free")
        self.assertEqual(sure(*SPREAD, "let free[1] be n + 1", "ask top free", "seat 1"), (1,))

    def test_where_a_single_span_is_wanted(self):
        for body, seats in ((("tell score[n]",), ()), (("tell lot[n]",), ()), (("let score[n] be 1",), ()),
                            (("seat n",), (1,)),
                            (("seat 0 - n",), ()), (("weigh n by 1",), ()), (("ask mark 0 where n",), ()),
                            (("ask mark n",), ()),
                            (("ask mark n from 1",), ()), (("ask mark 0 from n",), ()), (("ask over n 1",), ()),
                            (("ask over 1 n",), ()), (("tell free[lot[n]]",), ())):
            self.both(*body, seats=seats)

    def test_a_seat_when_all_are_given(self):
        self.assertIsNone(sure(*SPREAD, "seat 0", "seat n", seats=1))
        self.assertEqual(sure(*SPREAD, "seat 0", "seat 1", seats=1), (0,))

    def test_where_it_is_not_wanted(self):
        self.assertEqual(sure(*SPREAD, "tell n", "let score[1] be n", "tell floor(n) + min(n, 1) + max(n, 1)",
                              "weigh 0 by n", "seat 2"), (2,))

    def test_large_ends_of_operators(self):
        # The number n becomes 10 ** 199, and x is from 0 to 2.
        body = (*SPREAD[:3], "let x be score[0]", "let n be 10", "times 20", "let n be n * 100000000", "end",
                *["let n be n * 100000000"] * 4, "let n be n * 1000000")
        self.assertEqual(sure(*body, "tell n * 9", "seat 1"), (1,))
        self.assertIsNone(sure(*body, "tell n * 10", "seat 1"))
        for small, large in (("x * (4 * n)", "x * (5 * n)"), ("7 * n + x * n", "8 * n + x * n"),
                             ("0 - 7 * n - x * n", "0 - 8 * n - x * n"), ("x / (1 / (4 * n))", "x / (1 / (5 * n))"),
                             ("(x + 1) / n / 9", "(x + 1) / n / 10"), ("n - 1 + 9 * n", "n + 9 * n")):
            self.assertEqual(sure(*body, f"tell {small}", "seat 1"), (1,), small)
            self.assertIsNone(sure(*body, f"tell {large}", "seat 1"), large)

    def test_large_ends_of_tallies_and_sums(self):
        # A weight becomes 1 / 10 ** 200, which is not looked at until it is counted.
        for ask, count in (("ask top free", "tally score"), ("ask mark 0", "sum x")):
            label = 0 if count.startswith("tally") else 1
            body = ("let free[0] be 1", ask, "let n be 1", "times 20", "let n be n * 100000000", "end",
                    *["let n be n * 100000000"] * 4, f"weigh {label} by 1 / n")
            tiny = (f"weigh {label} by 1 / 1000000", f"weigh {label} by 1 / 100")
            self.assertEqual(sure(*body, tiny[0], count, "seat 1"), (1,))
            self.assertEqual(sure(*body, *tiny, "seat 1"), (1,))
            self.assertIsNone(sure(*body, *tiny, count, "seat 1", changed=0))
            # Its ends are 0 and 2 / 10 ** 200 here, which is not large in lowest terms.
            self.assertEqual(sure(*body, *tiny, count, "seat 1", changed=1), (1,))
            # Without such a ballot the count is zero, but a changed or a free one could have this weight.
            self.assertEqual(sure(*body, *tiny, count, "seat 1", ballots=("bo",), changed=0), (1,))
            self.assertIsNone(sure(*body, *tiny, count, "seat 1", ballots=("bo",), changed=1))
            self.assertIsNone(sure(*body, *tiny, count, "seat 1", ballots=("bo",), changed=0, free=1))

    def test_the_weigh_with_the_number_20(self):
        for changed in (0, 1):
            self.assertEqual(sure("times 20", "weigh 7 by 1", "end", "seat 1", changed=changed), (1,))
            self.assertIsNone(sure("times 20", "weigh 7 by 1", "end", "weigh 7 by 1", "seat 1", changed=changed))


class Totals(unittest.TestCase):
    """The ends of tallies and sums, told by the tests of an if that would be open for any other span."""

    def exactly(self, name, low, high, *body, **more):
        self.assertEqual(sure(*body, f"if {low} <= {name} and {name} <= {high}", "seat 1", "end", **more), (1,))
        self.assertIsNone(sure(*body, f"if {low} < {name}", "seat 1", "end", **more))
        self.assertIsNone(sure(*body, f"if {name} < {high}", "seat 1", "end", **more))

    def test_tallies(self):
        body = ("let free[0] be 1", "let free[1] be 1", "ask top free", "tally score")
        ballots = ("ann", "ann", "bo", "cy", "-")
        self.exactly("score[0]", 1, 3, *body, ballots=ballots)
        self.exactly("score[0]", 0, 4, *body, ballots=ballots, changed=2)
        self.exactly("score[0]", 2, 5, *body, ballots=ballots, changed=0, free=3)
        self.exactly("score[1]", "0 - 1", 6, *body, ballots=ballots, changed=2, free=3)
        # No block has the label of the third one.
        self.assertEqual(sure(*body, "if score[2] = 0", "seat 2", "end", ballots=ballots, changed=4, free=5), (2,))

    def test_more_changed_than_there_are(self):
        body = ("let free[0] be 1", "ask top free", "tally score")
        self.exactly("score[0]", "0 - 4", 6, *body, ballots=("ann",), changed=5)
        self.exactly("score[0]", "0 - 40", 40, *body, ballots=(), changed=40)

    def test_sums(self):
        body = ("ask over 0 1", "sum x")
        ballots = ("ann", "ann", "ann", "bo", "-")
        self.exactly("x", 0, 4, *body, ballots=ballots)
        self.exactly("x", "0 - 4", 8, *body, ballots=ballots, changed=2, free=2)
        # Ahead of any ask all labels are -2, and no block has another one.
        self.assertEqual(sure("sum x", "if x = 0 - 6", "seat 0", "end", ballots=ballots, changed=2, free=1), ())
        self.assertEqual(sure("sum x", "if x = 0 - 12", "seat 0", "end", ballots=ballots, changed=2, free=1), (0,))

    def test_weights(self):
        body = ("let free[0] be 1", "ask top free", "tally score", "weigh 0 by score[0] / 4", "tally score")
        ballots = ("ann", "ann", "bo")
        # The first tally is from 1 to 3, the weight from 1/4 to 3/4, and a block without it has zero.
        self.exactly("score[0]", "2 / 4 - 3 / 4", "6 / 4 + 3 / 4", *body, ballots=ballots)

    def test_factors_out_of_bounds(self):
        body = ("let free[0] be 1", "ask top free", "tally score")
        ballots = ("ann", "ann", "bo")
        # The tally is from 1 to 3; factors below 0 count as 0, and above 1 as 1.
        for factor, low, high in (("score[0] - 2", 0, 1), ("score[0]", 1, 1), ("0 - score[0]", 0, 0),
                                  ("score[0] / 3", "1 / 3", 1)):
            found = (*body, f"weigh 0 by {factor}", "tally score")
            if high == 0:
                self.assertEqual(sure(*found, "if score[0] = 0", "seat 1", "end", ballots=ballots), (1,))
            else:
                self.exactly("score[0]", f"2 * {low} - 1", f"2 * {high} + 1", *found, ballots=ballots)

    def test_votes(self):
        self.assertEqual(sure("seat votes - 5", "seat votes - 4", ballots=("ann", "bo"), changed=2, free=3), (0, 1))

    def test_no_ballots(self):
        self.assertEqual(sure_count(MOST, []), (0,))
        self.assertEqual(sure_count(MOST, (), changed=40), None)
        self.assertEqual(sure_count(contest_of(rule_text("seat 1")), [], changed=40, free=40), (1,))


class Firmness(unittest.TestCase):
    def test_most(self):
        for ann, bo, firm in ((1, 0, 0), (2, 0, 1), (3, 0, 1), (5, 0, 2), (5, 2, 1), (4, 4, 0), (7, 0, 3), (0, 2, 0),
                              (0, 3, 1), (0, 4, 1)):
            roll = roll_of(MOST, *["ann"] * ann, *["bo"] * bo)
            self.assertEqual(firmness(MOST, roll), firm, (ann, bo))
            self.assertEqual(sure_count(MOST, roll, changed=firm), sure_count(MOST, roll))
            self.assertIsNone(sure_count(MOST, roll, changed=firm + 1))
        self.assertEqual(firmness(roll=roll_of(MOST, "ann", "ann", "ann"), contest=MOST), 1)

    def test_all_are_firm(self):
        contest = contest_of(rule_text("seat 1"))
        for many in (0, 1, 5, 40):
            self.assertEqual(firmness(contest, roll_of(contest, *["ann"] * many)), many)
        self.assertEqual(firmness(MOST, []), 0)

    def test_none(self):
        for body in (("times 20", "weigh 0 by 1", "end", "weigh 0 by 1"),
                     ("let n be 9", "times 9", "let n be n * n", "end")):
            contest = contest_of(rule_text(*body))
            self.assertNotEqual(plain_count(contest, []).end, "whole")
            self.assertIsNone(firmness(contest, []))
            self.assertIsNone(firmness(contest, roll_of(contest, "ann", "bo")))

    def test_it_is_below_the_margin(self):
        found = {}
        for word in sorted(SHELF):
            contest = contest_of(shelf_text(word), names=NAMES[:2])
            for seed in range(12):
                maker = Maker(seed)
                roll = [maker.one_of(contest.markings()) for _ in range(5)] if seed % 2 else [contest.markings()[-1]] * 6
                told = margin(contest, roll)
                firm = firmness(contest, roll)
                self.assertLess(firm, len(roll) + 1 if told is None else told[0])
                found[firm] = True
        self.assertGreater(len(found), 2)

    def test_the_greatest_without_a_gap(self):
        many = 0
        for seed in range(300):
            maker = Maker(seed)
            contest = Contest(NAMES, NAMES, maker.rule(maker.one_of(FORMS)))
            roll = maker.roll(contest)
            firm = firmness(contest, roll)
            kept = [changed for changed in range(len(roll) + 1) if sure_count(contest, roll, changed=changed) is not None]
            if firm is None:
                self.assertNotIn(0, kept)
            else:
                self.assertEqual(kept[:firm + 1], list(range(firm + 1)))
                self.assertNotIn(firm + 1, kept)
                many += 1
        self.assertGreater(many, 150)


class Errors(unittest.TestCase):
    def test_rolls(self):
        for call in (sure_count, firmness):
            for roll, at in ((None, -1), ("ann", -1), ({}, -1), (7, -1), ([(1, 0, 0), (2, 0, 0)], 1), ([[1, 0, 0]], 0),
                             ([(1, 0, 0), (True, 0, 0), None], 1)):
                self.assertEqual(caught(InvalidRoll, call, MOST, roll), (at,))
            self.assertEqual(caught(TooMany, call, MOST, [(1, 0, 0)] * 41), ("ballots", 40))
        self.assertEqual(sure_count(MOST, [(1, 0, 0)] * 40), (0,))

    def test_numbers(self):
        for value in (-1, 41, True, False, None, "1", (1,), [1]):
            self.assertEqual(caught(InvalidNumber, sure_count, MOST, [], changed=value), (value,))
            self.assertEqual(caught(InvalidNumber, sure_count, MOST, [], free=value), (value,))
        self.assertEqual(caught(TooMany, sure_count, MOST, [(1, 0, 0)] * 2, free=39), ("ballots", 40))
        self.assertIsNone(sure_count(MOST, [(1, 0, 0)] * 2, free=38))

    def test_their_order(self):
        self.assertEqual(caught(InvalidRoll, sure_count, MOST, [1], changed=-1, free=-2), (0,))
        self.assertEqual(caught(TooMany, sure_count, MOST, [(1, 0, 0)] * 41, changed=-1, free=-2), ("ballots", 40))
        self.assertEqual(caught(InvalidNumber, sure_count, MOST, [(1, 0, 0)] * 40, changed=-1, free=-2), (-1,))
        self.assertEqual(caught(InvalidNumber, sure_count, MOST, [(1, 0, 0)] * 40, changed=1, free=-2), (-2,))
        self.assertEqual(caught(TooMany, sure_count, MOST, [(1, 0, 0)] * 40, changed=1, free=1), ("ballots", 40))

    def test_arguments_stay(self):
        roll = roll_of(MOST, "ann", "bo")
        before = list(roll)
        self.assertIs(type(sure_count(free=1, changed=0, roll=roll, contest=MOST)), type(None))
        self.assertIs(type(sure_count(MOST, tuple(roll))), tuple)
        firmness(MOST, roll)
        self.assertEqual(roll, before)
