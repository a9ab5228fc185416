"""Contests: their errors, their attributes and their methods."""

import unittest

from helpers import contest_of, rule_text
from soleheld.contests import Contest
from soleheld.errors import CountError, InvalidLot, InvalidNames, InvalidRoll, Spoiled, TooMany
from soleheld.forms import One
from soleheld.rules import read_rule

RANKS = read_rule(rule_text(word="rounds"))
POINTS = read_rule(rule_text(form="points 3"))
NAMES = ["ann", "bo", "cy"]
FIVE = ["ann", "bo", "cy", "dee", "ed"]
NO_LISTS = (None, True, False, 0, 3, "", "ann", "ann bo", RANKS, One())


def contest(names=NAMES, lot=NAMES, rule=RANKS):
    return Contest(names, lot, rule)


class Making(unittest.TestCase):
    def wrong_names(self, names, lot=NAMES):
        with self.assertRaises(InvalidNames) as caught:
            Contest(names, lot, POINTS)
        return caught.exception.at

    def test_names_that_are_no_list(self):
        for value in (*NO_LISTS, [], (), ["ann"], ("ann",), [1], FIVE + ["fay"], [0] * 6):
            self.assertEqual(self.wrong_names(value), -1, value)

    def test_the_first_wrong_name(self):
        for names, at in ((["ann", "Bo"], 1), (["", "bo"], 0), (["ann", "ann"], 1), (["ann", "bo", "ann", ""], 2),
                          (["abcdefghi", "bo"], 0), (["ann", "bo", None], 2), ([True, "bo"], 0), (["ann", ["ann"]], 1),
                          ([("ann",), "bo"], 0), (["ann", "bo\n"], 1), ((1, "ann", "ann"), 0), (["ann", RANKS], 1),
                          (["ann", "bo", "cy", "dee", "dee"], 4), ([[], [[]], "a"], 0)):
            self.assertEqual(self.wrong_names(names), at, names)

    def test_the_lot(self):
        for lot in (*NO_LISTS, [], ["ann"], ["ann", "bo"], NAMES + ["ann"], NAMES + ["dee"], ["ann", "bo", "bo"],
                    ["ann", "bo", "dee"], ["ann", "bo", None], ["ann", "bo", True], ["ann", "bo", ["cy"]],
                    ["ann", "bo", RANKS], [NAMES], [0, 1, 2]):
            with self.assertRaises(InvalidLot):
                contest(lot=lot)

    def test_too_many_markings(self):
        with self.assertRaises(TooMany) as caught:
            contest(FIVE, FIVE, POINTS)
        self.assertEqual((caught.exception.what, caught.exception.most), ("markings", 400))
        self.assertEqual(len(contest(FIVE[:4], FIVE[:4], POINTS).markings()), 256)
        self.assertEqual(len(contest(FIVE, FIVE).markings()), 326)

    def test_the_first_error_counts(self):
        self.assertEqual(self.wrong_names(FIVE[:4] + ["ann"], None), 4)
        self.assertEqual(self.wrong_names(None, None), -1)
        with self.assertRaises(InvalidLot):
            contest(FIVE, FIVE[:4], POINTS)

    def test_own_words_may_be_candidates(self):
        self.assertEqual(contest(["lot", "seats"], ["seats", "lot"]).names, ("lot", "seats"))

    def test_attributes(self):
        for kind in (list, tuple):
            made = contest(kind(NAMES), kind(NAMES[::-1]))
            self.assertEqual((made.names, made.lot, made.many), (("ann", "bo", "cy"), ("cy", "bo", "ann"), 3))
            self.assertIs(type(made.names), tuple)
            self.assertIs(type(made.lot), tuple)
            self.assertEqual(made.rule, RANKS)

    def test_by_name(self):
        made = Contest(rule=RANKS, lot=["bo", "ann"], names=["ann", "bo"])
        self.assertEqual((made.names, made.lot), (("ann", "bo"), ("bo", "ann")))

    def test_lists_that_are_changed_afterwards(self):
        names, lot = list(NAMES), list(NAMES)
        made = contest(names, lot)
        names.append("dee")
        lot.reverse()
        self.assertEqual((made.names, made.lot, made.many), (tuple(NAMES), tuple(NAMES), 3))
        self.assertEqual(made, contest())
        self.assertEqual(names, NAMES + ["dee"])

    def test_nothing_handed_in_is_changed(self):
        names, lot = list(NAMES), list(NAMES[::-1])
        contest(names, lot)
        self.assertEqual((names, lot), (NAMES, NAMES[::-1]))


class Methods(unittest.TestCase):
    def test_markings(self):
        made = contest()
        self.assertEqual(made.markings(), RANKS.form.markings(3))
        self.assertIs(type(made.markings()), list)
        made.markings().clear()
        self.assertEqual(len(made.markings()), 16)

    def test_number_of(self):
        for names in (FIVE[:2], NAMES, FIVE):
            made = contest(names, names)
            self.assertEqual([made.number_of(marking) for marking in made.markings()], list(range(len(made.markings()))))

    def test_number_of_no_marking(self):
        made = contest()
        for value in (None, True, 0, "", "ann", "-", [], [0, 0, 0], [3, 2, 1], (), (0, 0), (0, 0, 0, 0), (1, 2, 4),
                      (0, 0, 1), (3, 3, 0), (-3, 0, 0), (True, 2, 3), (False, False, False), (0, 0, None), ("3", 2, 1),
                      ((3,), 2, 1), ([3], 2, 1), ((0, 0, 0),), RANKS, made, (made, 0, 0)):
            self.assertEqual(made.number_of(value), -1, value)
        one = contest(rule=read_rule(rule_text(form="one")))
        self.assertEqual(one.number_of((1, 0, 0)), 3)
        self.assertEqual(one.number_of((True, 0, 0)), -1)
        self.assertEqual(one.number_of((1, False, 0)), -1)
        self.assertEqual(one.number_of(value=(0, 0, 0)), 0)

    def test_place_of(self):
        made = contest(lot=["cy", "ann", "bo"])
        self.assertEqual([made.place_of(number) for number in range(3)], [1, 2, 0])
        self.assertEqual(made.place_of(number=2), 0)

    def test_texts(self):
        made = contest()
        self.assertEqual(made.written((2, 3, 0)), "bo > ann")
        self.assertEqual(made.written(marking=(0, 0, 0)), "-")
        self.assertEqual(made.read("bo > ann"), (2, 3, 0))
        self.assertEqual(made.read(text="-"), (0, 0, 0))
        for value, why in (("ann > dee", "name"), ("ann > ann", "double"), ("ann bo", "shape"), (None, "signs"),
                           ([1], "signs"), (made, "signs")):
            with self.assertRaises(Spoiled) as caught:
                made.read(value)
            self.assertEqual((caught.exception.ballot, caught.exception.why), (value, why))

    def test_equal(self):
        self.assertTrue(contest() == contest(tuple(NAMES), tuple(NAMES), read_rule(str(RANKS))))
        for other in (contest(lot=NAMES[::-1]), contest(["ann", "bo", "dee"], ["ann", "bo", "dee"]),
                      contest(["bo", "ann", "cy"]), contest(rule=POINTS), contest(NAMES[:2], NAMES[:2]),
                      None, RANKS, "contest", tuple(NAMES)):
            self.assertFalse(contest() == other)
            self.assertTrue(contest() != other)

    def test_repr(self):
        self.assertEqual(repr(contest()), "Contest(rounds, 3 candidates)")
        self.assertEqual(repr(contest(NAMES[:2], NAMES[:2], POINTS)), "Contest(test, 2 candidates)")


class Rolls(unittest.TestCase):
    def setUp(self):
        self.made = contest_of(rule_text(form="one"))

    def wrong(self, roll):
        with self.assertRaises(InvalidRoll) as caught:
            self.made.check_roll(roll)
        self.assertIsInstance(caught.exception, CountError)
        return caught.exception.at

    def test_good_rolls(self):
        for roll in ([], (), [(0, 0, 0)], ((1, 0, 0), (0, 1, 0)), [(0, 0, 1)] * 40, ((0, 1, 0),) * 40):
            self.assertIsNone(self.made.check_roll(roll))
        self.assertIsNone(self.made.check_roll(roll=[]))

    def test_no_lists(self):
        for value in (*NO_LISTS, self.made):
            self.assertEqual(self.wrong(value), -1)

    def test_items_that_are_no_markings(self):
        good = (1, 0, 0)
        for value in (None, True, 0, "ann", [], [1, 0, 0], (), (1, 0), (1, 1, 0), (2, 0, 0), (1, 0, 0, 0), (-1, 0, 0),
                      (True, 0, 0), (1, 0, False), (1, 0, "0"), (1, (0,), 0), (1, [0], 0), (good,), RANKS):
            for at in range(3):
                roll = [good] * 3
                roll[at] = value
                self.assertEqual(self.wrong(roll), at, value)
        self.assertEqual(self.wrong((good, "x", (True, 0, 0))), 1)

    def test_too_many_ballots(self):
        for roll in ([(1, 0, 0)] * 41, ((1, 0, 0),) * 60):
            with self.assertRaises(TooMany) as caught:
                self.made.check_roll(roll)
            self.assertEqual((caught.exception.what, caught.exception.most), ("ballots", 40))

    def test_a_wrong_item_comes_first(self):
        self.assertEqual(self.wrong([(1, 0, 0)] * 41 + [()]), 41)
        self.assertEqual(self.wrong([()] * 50), 0)

    def test_the_roll_stays(self):
        roll = [(1, 0, 0), (True, 0, 0)]
        self.wrong(roll)
        self.assertEqual(roll, [(1, 0, 0), (True, 0, 0)])
        self.assertIs(type(roll[1][0]), bool)
