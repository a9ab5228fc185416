"""The ten rules of the shelf, letter by letter, and the facts of them."""

import unittest
from fractions import Fraction

import helpers
from helpers import caught, roll_of
from reference import Maker
from soleheld.contests import Contest
from soleheld.counts import plain_count
from soleheld.errors import BadRule, InvalidNumber, Missing, NoName
from soleheld.forms import One
from soleheld.rules import Rule, read_rule
from soleheld.shelf import SHELF, shelf_rule, shelf_text
from soleheld.worths import worth

WORDS = ("most", "ticked", "points", "places", "rounds", "transfer", "pairs", "levels", "divisors", "rests")
FORMS = {"most": "one", "ticked": "ticks", "points": "points 2", "levels": "points 2", "divisors": "lists 2",
         "rests": "lists 2"}
NAMES = ("ann", "bo", "cy", "dee")


def contest_of(word, seats=1, names=NAMES[:3], lot=None):
    """A contest with a rule of the shelf."""
    return Contest(names, names if lot is None else lot, shelf_rule(word, seats))


def tallies(count):
    return [item[2] for item in count.history if item[0] == "tally"]


class Texts(unittest.TestCase):
    def test_words(self):
        self.assertEqual(SHELF, WORDS)
        self.assertIs(type(SHELF), tuple)

    def test_letter_by_letter(self):
        for word in WORDS:
            for seats in range(1, 6):
                self.assertEqual(shelf_text(word, seats), helpers.shelf_text(word, seats))
            self.assertEqual(shelf_text(word), helpers.shelf_text(word, 1))
        self.assertEqual(shelf_text(seats=3, word="pairs"), helpers.shelf_text("pairs", 3))

    def test_the_shortest_line_by_line(self):
        self.assertEqual(shelf_text("most", 2).split("\n"), [
            "rule most", "form one", "seats 2", "row free score", "num best", "begin", "each a", "let free[a] be 1", "end",
            "ask top free", "tally score", "times names", "if seated < seats", "let best be 0 - 1", "each a", "if free[a]",
            "if best < 0 or score[best] < score[a] or score[best] = score[a] and lot[a] < lot[best]", "let best be a",
                                                             "end", "end",
            "end", "seat best", "let free[best] be 0", "end", "end", ""])

    def test_own_texts(self):
        for word in WORDS:
            for seats in range(1, 6):
                rule = shelf_rule(word, seats)
                self.assertIs(type(rule), Rule)
                self.assertEqual(str(rule), shelf_text(word, seats))
                self.assertEqual((rule.word, str(rule.form), rule.seats), (word, FORMS.get(word, "ranks"), seats))
                self.assertEqual(rule, read_rule(helpers.shelf_text(word, seats)))
                self.assertIsNone(caught(BadRule, read_rule, shelf_text(word, seats)))
            self.assertEqual(shelf_rule(word), shelf_rule(seats=1, word=word))

    def test_errors(self):
        for call in (shelf_text, shelf_rule):
            for value in (None, True, 0, "", "Most", "most ", "mos", "rule", "FREE", "CHOOSE", "K", ("most",), ["most"],
                          [], One(), "names"):
                for seats in (1, 0, None):
                    with self.assertRaises(NoName) as error:
                        call(value, seats)
                    self.assertEqual(error.exception.word, value)
                    self.assertIsInstance(error.exception, Missing)
            for seats in (0, 6, -1, True, False, None, "1", (1,), [1]):
                self.assertEqual(caught(InvalidNumber, call, "most", seats), (seats,))


class Facts(unittest.TestCase):
    """For contests and rolls of each form."""

    def settings(self, word, many=60, seats=(1, 2, 3, 4, 5)):
        for seed in range(many):
            maker = Maker(seed)
            names = NAMES[:maker.one_of((2, 3, 4))]
            contest = contest_of(word, maker.one_of(seats), names, maker.random.sample(names, len(names)))
            few = [maker.one_of(contest.markings()) for _ in range(maker.one_of((1, 2, 9)))]
            yield contest, [maker.one_of(few) for _ in range(maker.random.randrange(14))]

    def test_most(self):
        for contest, roll in self.settings("most"):
            order = sorted(range(contest.many), key=lambda a: (-sum(marking[a] for marking in roll), contest.place_of(a)))
            self.assertEqual(plain_count(contest, roll).seats, tuple(order[:contest.rule.seats]))

    def test_ticked_points_places(self):
        for word in ("ticked", "points", "places"):
            for contest, roll in self.settings(word, 40):
                order = sorted(range(contest.many),
                               key=lambda a: (-sum(marking[a] for marking in roll), contest.place_of(a)))
                self.assertEqual(plain_count(contest, roll).seats, tuple(order[:contest.rule.seats]))

    def test_seats(self):
        for word in WORDS:
            for contest, roll in self.settings(word, 40):
                count = plain_count(contest, roll)
                self.assertEqual(count.end, "whole")
                self.assertLessEqual(len(count.seats), contest.rule.seats)
                if word in ("most", "ticked", "points", "places", "pairs"):
                    self.assertEqual(len(set(count.seats)), len(count.seats))

    def test_twice_each_ballot(self):
        for word in ("most", "ticked", "points", "places", "pairs", "divisors", "levels"):
            for contest, roll in self.settings(word, 40):
                twice = [marking for marking in roll for _ in range(2)]
                self.assertEqual(plain_count(contest, twice).seats, plain_count(contest, roll).seats)

    def test_rounds(self):
        for contest, roll in self.settings("rounds", 100):
            count, standing = plain_count(contest, roll), set(range(contest.many))
            for worths in tallies(count):
                ranked = sum(any(marking[a] for a in standing) for marking in roll)
                self.assertEqual(sum(top for top, _ in worths), ranked)
                self.assertTrue(all(worths[a] == (0, 1) for a in range(contest.many) if a not in standing))
                least = min(worths[a] for a in standing)
                standing.discard(max((a for a in standing if worths[a] == least), key=contest.place_of))
            self.assertEqual(len(count.seats), 1)
            self.assertIn(count.history[-1], [("seat", a) for a in range(contest.many)])

    def test_transfer(self):
        seated = 0
        for contest, roll in self.settings("transfer", 150):
            count = plain_count(contest, roll)
            quota = len(roll) // (contest.rule.seats + 1) + 1
            before = Fraction(len(roll))
            standing = contest.many
            for item, behind in zip(count.history, [*count.history[1:], None]):
                if item[0] != "tally":
                    continue
                found = sum((Fraction(*value) for value in item[2]), Fraction(0))
                self.assertLessEqual(found, before)
                before = found
                if behind is not None and behind[0] == "seat":
                    seated += 1
                    free = contest.rule.seats - sum(other[0] == "seat" for other in count.history[:count.history.index(item)])
                    self.assertTrue(Fraction(*item[2][behind[1]]) >= quota or standing <= free)
                standing -= 1
            self.assertEqual(len(count.seats), min(contest.rule.seats, contest.many))
        self.assertGreater(seated, 200)

    def test_pairs(self):
        winners = 0
        for contest, roll in self.settings("pairs", 100):
            for a in range(contest.many):
                ahead = [sum((marking[a] > marking[b]) - (marking[a] < marking[b]) for marking in roll)
                         for b in range(contest.many) if b != a]
                if all(gap > 0 for gap in ahead):
                    winners += 1
                    self.assertEqual(plain_count(contest, roll).seats[0], a)
        self.assertGreater(winners, 30)

    def test_levels(self):
        for contest, roll in self.settings("levels", 60, (1,)):
            def reached(a, level):
                return sum(marking[a] >= level for marking in roll)
            for level in (2, 1, 0):
                best = min(range(contest.many), key=lambda a: (-reached(a, level), contest.place_of(a)))
                if 2 * reached(best, level) > len(roll) or level == 0:
                    self.assertEqual(plain_count(contest, roll).seats, (best,))
                    break

    def test_divisors(self):
        for contest, roll in self.settings("divisors", 60, (1,)):
            found = [plain_count(contest_of("divisors", seats, contest.names, contest.lot),
                                 roll).seats for seats in range(1, 6)]
            for seats, (less, more) in enumerate(zip(found, found[1:]), start=1):
                self.assertEqual((len(less), more[:-1]), (seats, less))
            votes, won = [sum(marking[a] for marking in roll) for a in (0, 1)], [0, 0]
            for seat in found[-1]:
                self.assertEqual(seat, min((0, 1), key=lambda a: (Fraction(-votes[a], won[a] + 1), contest.place_of(a))))
                won[seat] += 1

    def test_rests(self):
        shares = 0
        for contest, roll in self.settings("rests", 100):
            count = plain_count(contest, roll)
            votes = [sum(marking[a] for marking in roll) for a in (0, 1)]
            self.assertEqual(len(count.seats), contest.rule.seats)
            if sum(votes):
                for a in (0, 1):
                    share = Fraction(votes[a] * contest.rule.seats, sum(votes))
                    self.assertIn(count.seats.count(a), (share // 1, -(-share // 1)))
                    shares += share.denominator > 1
        self.assertGreater(shares, 20)


class Examples(unittest.TestCase):
    """The last two examples of [36]."""

    def test_rounds(self):
        contest = contest_of("rounds")
        self.assertEqual(len(contest.markings()), 16)
        count = plain_count(contest, roll_of(contest, *["ann"] * 3, *["bo"] * 2, *["cy > bo"] * 2))
        self.assertEqual(tallies(count), [tuple(map(worth, row)) for row in ((3, 2, 2), (3, 4, 0))])
        self.assertEqual(count.seats, (1,))
        other = plain_count(contest, roll_of(contest, *["ann"] * 3, *["bo"] * 2, "cy > bo", "cy"))
        self.assertEqual(tallies(other)[:2], [tuple(map(worth, row)) for row in ((3, 2, 2), (3, 3, 0))])
        self.assertEqual(other.seats, (0,))

    def test_transfer(self):
        contest = contest_of("transfer", 2)
        count = plain_count(contest, roll_of(contest, *["ann > bo"] * 4, "bo", "cy"))
        self.assertEqual(tallies(count), [tuple(map(worth, row)) for row in ((4, 1, 1), (0, 2, 1), (0, 2, 0))])
        self.assertEqual((count.seats, count.end), ((0, 1), "whole"))
