"""Margins and least groups, against all variants counted one by one."""

import unittest
from itertools import product

from helpers import SHELF, bundles_of, caught, contest_of, hands_of, roll_of, rule_text, shelf_text
from reference import Maker
from reference_sure import variants
from soleheld.branches import branches
from soleheld.contests import Contest
from soleheld.counts import plain_count
from soleheld.errors import BadStaff, CountError, InvalidNumber, InvalidRoll, TooMany
from soleheld.forms import Lists, One, Points, Ranks, Ticks
from soleheld.houses import House
from soleheld.margins import least_group, margin
from soleheld.seals import WholeSeal
from soleheld.staffs import Staff
from soleheld.voices import TrueVoice

NAMES = ("ann", "bo", "cy")
FORMS = (One(), Ticks(), Points(1), Ranks(), Lists(2))
MOST = contest_of(shelf_text("most"))
ROUNDS = contest_of(shelf_text("rounds"))
PAIR = contest_of(shelf_text("most"), names=("ann", "bo"))
PLAIN = contest_of(rule_text("seat 2"))
# Five blocks, and always the seat 1.
FIVE = contest_of(rule_text("each a", "let r[a] be 1", "end", "ask top r", "seat 1", form="one", row="r", num=""),
                  names=("ann", "bo", "cy", "dee"))
# Another seat if all ballots are blank, as they are in the last branch.
LATE = contest_of(rule_text("each a", "let r[a] be 1", "end", "ask top r", "tally r", "if r[0] + r[1] + r[2] + r[3] = 0",
                            "seat 2",
                            "else", "seat 1", "end", form="one", row="r", num=""), names=("ann", "bo", "cy", "dee"))


class AgainstVariants(unittest.TestCase):
    def expected(self, contest, roll, most, only):
        """The margin as [31] tells it, with the first branch of a full walk."""
        seats = plain_count(contest, roll).seats
        bound = len(roll) if only is None else len(set(only))
        if most is not None:
            bound = min(bound, most)
        for changed in range(1, bound + 1):
            turned = [variant for variant in variants(contest, roll, changed, 0, only)
                      if plain_count(contest, variant).seats != seats]
            if turned:
                walk = branches(contest, roll, changed=changed, only=only)
                first = next(branch for branch in walk if branch.told.seats != seats)
                self.assertIn(first.filled, turned)
                return (changed, list(first.filled))
        return None

    def check(self, contest, roll, most, only):
        found = margin(contest, roll, most=most, only=only)
        self.assertEqual(found, self.expected(contest, roll, most, only))
        if found is not None:
            self.assertEqual([type(value) for value in (found, found[1])], [tuple, list])
            self.assertEqual(sum(one != other for one, other in zip(found[1], roll)), found[0])
            self.assertEqual(len(found[1]), len(roll))
        return 0 if found is None else found[0]

    def test_small_rolls(self):
        found = {}
        for seed in range(300):
            maker = Maker(seed)
            names = NAMES[:maker.one_of((2, 2, 3))]
            lot = maker.random.sample(names, len(names))
            if seed % 2:
                contest = contest_of(shelf_text(sorted(SHELF)[seed // 2 % len(SHELF)], maker.one_of((1, 2))), names, lot)
            else:
                contest = Contest(names, lot, maker.rule(FORMS[seed // 2 % len(FORMS)]))
            roll = [maker.one_of(contest.markings()) for _ in range(maker.random.randrange(5))]
            most = maker.one_of((None, None, 0, 1, 2))
            only = None
            if roll and seed % 3:
                only = [maker.random.randrange(len(roll)) for _ in range(maker.random.randrange(5))]
            open_ballots = min(len(roll) if only is None else len(set(only)), 9 if most is None else most)
            if len(contest.markings()) ** open_ballots > 300:
                most = 1
            kind = (self.check(contest, roll, most, only), most is None, only is None)
            found[kind] = True
        self.assertGreater(len(found), 7)

    def test_by_hand(self):
        bo, ann, blank = roll_of(PAIR, "bo", "ann", "-")
        # Ties go to ann; so one more ballot must change for bo than for ann.
        for texts, told in ((("ann",), (1, [bo])), (("bo",), (1, [blank])), (("ann", "ann"), (2, [bo, bo])),
                            (("ann", "ann", "-"), (2, [bo, blank, bo])), (("bo", "bo", "ann"), (1, [bo, blank, ann])),
                            ((), None)):
            found = margin(PAIR, roll_of(PAIR, *texts))
            self.assertEqual(found, self.expected(PAIR, roll_of(PAIR, *texts), None, None), texts)
            self.assertEqual(None if found is None else found[0], None if told is None else told[0], texts)

    def test_bounds(self):
        roll = roll_of(PAIR, "ann", "ann", "ann", "ann")
        self.assertEqual(margin(PAIR, roll)[0], 3)
        for most, only, told in ((3, None, 3), (2, None, None), (0, None, None), (40, None, 3), (None, [0, 1, 2], 3),
                                 (None, [0, 1], None),
                                 (None, [3, 3, 3, 3], None), (None, [3, 0, 3, 1], 3), (3, [3, 0, 3, 1], 3),
                                 (2, [3, 0, 3, 1], None),
                                 (None, [], None), (7, [], None), (40, [0, 1, 2, 3], 3)):
            found = margin(PAIR, roll, most=most, only=only)
            self.assertEqual(None if found is None else found[0], told, (most, only))
            self.assertEqual(found, self.expected(PAIR, roll, most, only))
        self.assertEqual(margin(only=(2, 1, 0), most=3, roll=tuple(roll), contest=PAIR)[0], 3)

    def test_the_example(self):
        # The third example of [36].
        roll = roll_of(ROUNDS, *["ann"] * 3, *["bo"] * 2, *["cy > bo"] * 2)
        count = plain_count(ROUNDS, roll)
        self.assertEqual(count.seats, (1,))
        self.assertEqual([item[2] for item in count.history if item[0] == "tally"],
                         [((3, 1), (2, 1), (2, 1)), ((3, 1), (4, 1), (0, 1))])
        found = margin(ROUNDS, roll)
        self.assertEqual(found[0], 1)
        self.assertNotEqual(plain_count(ROUNDS, found[1]).seats, (1,))
        self.assertEqual(sum(one != other for one, other in zip(found[1], roll)), 1)
        other = roll_of(ROUNDS, *["ann"] * 3, *["bo"] * 2, "cy > bo", "cy")
        count = plain_count(ROUNDS, other)
        self.assertEqual((count.seats, count.history[1][2]), ((0,), ((3, 1), (3, 1), (0, 1))))
        self.assertEqual(margin(ROUNDS, roll, only=[5, 6])[0], 1)
        self.assertEqual(found, self.expected(ROUNDS, roll, 1, None))

    def test_none(self):
        for roll in ([], roll_of(PLAIN, "ann", "bo > cy")):
            self.assertIsNone(margin(PLAIN, roll))
        self.assertIsNone(margin(MOST, []))

    def test_seats_alone_count(self):
        # The history differs with each ballot, the seats do not; and no seats are other seats than one.
        self.assertIsNone(margin(contest_of(rule_text("ask mark 0", "sum x", "tell x", "seat 1")), [(3, 2, 1)] * 3))
        self.assertEqual(margin(contest_of(rule_text("ask mark 0", "sum x", "if x = 9", "seat 1", "end")),
                                [(3, 2, 1)] * 3)[0], 1)


class LeastGroups(unittest.TestCase):
    def expected(self, contest, holdings, staff):
        """The first group with a filling that has other seats; the filling is that of the first branch."""
        everything = [ballot for roll in holdings for ballot in roll]
        seats = plain_count(contest, everything).seats
        for group in staff.groups(8):
            sole = staff.sole(group)
            free = sum(len(holdings[bundle]) for bundle in sole)
            fillings = list(product(contest.markings(), repeat=free))
            if group and any(self.seats(contest, holdings, sole, filling) != seats for filling in fillings):
                rest = [ballot for bundle, roll in enumerate(holdings) if bundle not in sole for ballot in roll]
                first = [branch for branch in branches(contest, rest, free=free) if branch.told.seats != seats][0]
                return group, self.held(holdings, sole, first.filled[len(rest):])
        return None

    def held(self, holdings, sole, filling):
        found, filling = [], list(filling)
        for bundle, roll in enumerate(holdings):
            if bundle in sole:
                found.append([filling.pop(0) for _ in roll])
            else:
                found.append(list(roll))
        return found

    def seats(self, contest, holdings, sole, filling):
        return plain_count(contest, [ballot for roll in self.held(holdings, sole, filling) for ballot in roll]).seats

    def test_against_all_groups_and_fillings(self):
        sizes = {}
        for seed in range(150):
            maker = Maker(seed)
            names = NAMES[:maker.one_of((2, 3))]
            contest = contest_of(shelf_text(maker.one_of(("most", "ticked", "rounds", "divisors", "transfer")),
                                            maker.one_of((1, 2))), names)
            many = maker.random.randrange(4)
            holdings = [[maker.one_of(contest.markings()) for _ in range(maker.random.randrange(3))] for _ in range(many)]
            if len(contest.markings()) ** sum(map(len, holdings)) > 300:
                holdings = [roll[:1] for roll in holdings][:2]
            staff = Staff(*[maker.random.sample("pqrs", maker.random.randrange(1, 4)) for _ in holdings])
            found = least_group(contest, holdings, staff)
            self.assertEqual(found, self.expected(contest, holdings, staff), seed)
            sizes[len(found[0]) if found else 0] = True
            if found:
                self.check_house(contest, holdings, staff, *found)
        self.assertEqual(set(sizes), {0, 1, 2, 3})

    def check_house(self, contest, holdings, staff, group, others):
        """The group speaks truly of the other holdings, all others of the sealed ones: the house tells other seats."""
        self.assertEqual([[type(roll) for roll in others], type(group)], [[list] * len(others), tuple])
        hands = hands_of(contest, *[[contest.written(ballot) for ballot in roll] for roll in holdings])
        lies = hands_of(contest, *[[contest.written(ballot) for ballot in roll] for roll in others])
        voices = {person: TrueVoice(contest, lies if person in group else hands) for person in staff.persons()}
        house = House(contest, bundles_of(contest, hands), staff, voices, seal=WholeSeal())
        seats = plain_count(contest, [ballot for roll in holdings for ballot in roll]).seats
        self.assertNotEqual(house.run().seats, seats)
        self.assertEqual(house.struck(), [])
        for bundle, (roll, other) in enumerate(zip(holdings, others)):
            if bundle not in staff.sole(group):
                self.assertEqual(other, roll)

    def test_by_hand(self):
        ann, bo, blank = roll_of(PAIR, "ann", "bo", "-")
        holdings = [[bo, bo], [ann], [ann]]
        self.assertEqual(plain_count(PAIR, [bo, bo, ann, ann]).seats, (0,))
        staff = Staff(["p", "q"], ["q", "r"], ["r"])
        # Alone, p and q hold nothing; r alone holds the last bundle.
        self.assertEqual(least_group(PAIR, holdings, staff), (("r",), [[bo, bo], [ann], [bo]]))
        self.assertEqual(least_group(staff=staff, holdings=tuple(map(tuple, holdings)), contest=PAIR),
                         (("r",), [[bo, bo], [ann], [bo]]))
        staff = Staff(["p", "q"], ["q", "r"], ["p", "q", "r"])
        self.assertEqual(least_group(PAIR, holdings, staff), (("q", "r"), [[bo, bo], [bo], [ann]]))
        staff = Staff(["p"], ["p"], ["q"])
        self.assertEqual(least_group(PAIR, [[ann], [ann], [ann]], staff)[0], ("p",))
        self.assertEqual(least_group(PAIR, [[ann], [ann], [ann]], Staff(["p"], ["q"], ["r"]))[0], ("p", "q"))
        self.assertEqual(least_group(PAIR, [[ann, blank], [ann], [bo]], Staff(["p"], ["q"], ["r"])),
                         (("p",), [[bo, bo], [ann], [bo]]))

    def test_the_last_ballots_in_order(self):
        contest = contest_of(shelf_text("divisors", 3), names=("ann", "bo"))
        holdings = [roll_of(contest, "ann", "ann"), roll_of(contest, "ann"), roll_of(contest, "ann", "ann", "ann")]
        found = least_group(contest, holdings, Staff(["p"], ["q"], ["p"]))
        self.assertEqual(found, self.expected(contest, holdings, Staff(["p"], ["q"], ["p"])))
        self.assertEqual([len(roll) for roll in found[1]], [2, 1, 3])

    def test_none(self):
        self.assertIsNone(least_group(PAIR, [], Staff()))
        self.assertIsNone(least_group(PAIR, [[], []], Staff(["p"], ["q"])))
        self.assertIsNone(least_group(PLAIN, [roll_of(PLAIN, "ann"), roll_of(PLAIN, "bo")], Staff(["p"], ["q"])))

    def test_arguments_stay(self):
        holdings = [roll_of(PAIR, "bo", "bo"), roll_of(PAIR, "ann")]
        before = [list(roll) for roll in holdings]
        _, found = least_group(PAIR, holdings, Staff(["p"], ["q"]))
        for roll in found:
            roll.append(1)
        found.clear()
        self.assertEqual(holdings, before)
        roll, only = roll_of(PAIR, "ann", "ann"), [1, 0, 1]
        margin(PAIR, roll, only=only)[1].clear()
        self.assertEqual((roll, only), (roll_of(PAIR, "ann", "ann"), [1, 0, 1]))


class Errors(unittest.TestCase):
    def test_rolls(self):
        for roll, at in ((None, -1), (7, -1), ("ann", -1), ([None], 0), ([(1, 0, 0), (2, 0, 0)], 1), ([(True, 0, 0)], 0)):
            self.assertEqual(caught(InvalidRoll, margin, MOST, roll, most=-1, only=[9]), (at,))
        self.assertEqual(caught(TooMany, margin, MOST, [(1, 0, 0)] * 41, most=-1, only=[99]), ("ballots", 40))

    def test_most(self):
        for value in (-1, 41, True, False, "1", (1,), [1], One()):
            self.assertEqual(caught(InvalidNumber, margin, MOST, [(1, 0, 0)], most=value, only=[9]), (value,))
        for value in (None, 0, 40):
            self.assertIsNone(caught(CountError, margin, MOST, [(1, 0, 0)], most=value))

    def test_only(self):
        roll = [(1, 0, 0)] * 2
        for only, wrong in (([2], 2), ([0, -1, 5], -1), ([0, 1, True], True), ([None], None), (("0",), "0"),
                            ([1, (0,)], (0,))):
            # It is looked at also if there is nothing to change.
            for most in (None, 0, 1):
                self.assertEqual(caught(InvalidNumber, margin, MOST, roll, most=most, only=only), (wrong,))
        self.assertEqual(caught(InvalidNumber, margin, MOST, [], only=[0]), (0,))

    def test_holdings(self):
        staff, ann = Staff(["p"], ["q"]), (1, 0, 0)
        for holdings in ([], [[]], [[], [], []], [[None]], [[None], [], []], None, 7, "ab"):
            self.assertEqual(caught(BadStaff, least_group, MOST, holdings, staff), (-1,))
        self.assertEqual(caught(BadStaff, least_group, MOST, [[ann] * 41], staff), (-1,))
        for holdings, at in (([[ann, None], []], 1), ([[ann], [ann, (2, 0, 0), 7]], 2), ([[], [[1, 0, 0]]], 0)):
            self.assertEqual(caught(InvalidRoll, least_group, MOST, holdings, staff), (at,))
        self.assertEqual(caught(TooMany, least_group, MOST, [[ann] * 20, [ann] * 21], staff), ("ballots", 40))
        self.assertEqual(caught(InvalidRoll, least_group, MOST, [[ann] * 20, [ann] * 21 + [0]], staff), (41,))

    def test_too_many_branches(self):
        one, other, blank = (1, 0, 0, 0), (0, 0, 0, 1), (0, 0, 0, 0)
        # 16 ballots have five blocks in 4845 ways, 24 in 20475.
        roll = [one] * 8 + [other] * 8 + [blank] * 8
        self.assertEqual(caught(TooMany, margin, FIVE, [(0, 1, 0, 0), (0, 0, 1, 0)] * 8 + roll), ("branches", 20000))
        self.assertIsNone(margin(FIVE, roll, most=5))
        self.assertIsNone(margin(FIVE, roll, only=[0, 9, 17]))
        self.assertEqual(caught(TooMany, least_group, FIVE, [roll], Staff(["p"])), ("branches", 20000))
        self.assertIsNone(least_group(FIVE, [roll[:8], roll[16:]], Staff(["p", "q"], ["p"])))

    def test_a_walk_that_goes_no_further_than_it_must(self):
        one, blank = (1, 0, 0, 0), (0, 0, 0, 0)
        # The first branch has other seats, though there are too many behind it.
        self.assertEqual(least_group(LATE, [[blank] * 24], Staff(["p"])), (("p",), [[(0, 0, 0, 1)] * 24]))
        self.assertEqual(margin(LATE, [blank] * 40)[0], 1)
        # Only the last one has.
        self.assertEqual(least_group(LATE, [[one] * 20], Staff(["p"])), (("p",), [[blank] * 20]))
        self.assertEqual(caught(TooMany, least_group, LATE, [[one] * 24], Staff(["p"])), ("branches", 20000))
        # Smaller groups come first.
        self.assertEqual(least_group(LATE, [[blank] * 24, [blank]], Staff(["p", "q"], ["q"]))[0], ("q",))
        self.assertEqual(caught(TooMany, least_group, LATE, [[one] * 4, [one] * 20], Staff(["p"], ["p", "q"])),
                         ("branches", 20000))
