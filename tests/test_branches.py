"""Branches, filled rolls and reach, against all variants counted one by one."""

import unittest

from helpers import SHELF, caught, contest_of, roll_of, rule_text, shelf_text
from reference import Maker
from reference_sure import variants
from soleheld.branches import Branch, branches, reach
from soleheld.contests import Contest
from soleheld.counts import Count, plain_count
from soleheld.courses import Course, lead
from soleheld.errors import CountError, InvalidNumber, InvalidRoll, TooMany
from soleheld.forms import Lists, One, Points, Ranks, Ticks

NAMES = ("ann", "bo", "cy")
FORMS = (One(), Ticks(), Points(1), Ranks(), Lists(2))
MOST = contest_of(shelf_text("most"))
ROUNDS = contest_of(shelf_text("rounds"))
# The blocks at the end are those of -, bo, ann, ann bo; the first question parts [-, bo] from [ann, ann bo].
TICKS = contest_of(rule_text("ask mark 0", "ask mark 1", "tally score", "seat 1", form="ticks"), names=("ann", "bo"))
FIVE = contest_of(rule_text("ask top r where 0 - 2", "each a", "let r[a] be 1", "end", "ask top r", form="one", row="r",
                            num=""),
                  names=("ann", "bo", "cy", "dee"))
PLAIN = contest_of(rule_text("seat 2", "tell votes"))


def parts_of(branch):
    """All that a branch tells."""
    return branch.told, branch.spent, branch.last_sizes, branch.filled, branch.replies


def told(contest, roll, **more):
    """The branches as tuples of all that they tell."""
    return [parts_of(branch) for branch in branches(contest, roll, **more)]


def first(contest, roll, **more):
    """The first branch."""
    return next(branches(contest, roll, **more))


class AgainstVariants(unittest.TestCase):
    def check(self, contest, roll, changed, free, only):
        found = list(branches(contest, roll, changed=changed, free=free, only=only))
        everything = variants(contest, roll, changed, free, only)
        expected = {}
        for variant in everything:
            course = lead(contest, variant)
            spent = sum(one != other for one, other in zip(variant, roll))
            kept = expected.setdefault(tuple(course.answers()), [course.so_far(), spent, tuple(course.sizes())])
            kept[1] = min(kept[1], spent)
            self.assertEqual(course.so_far(), plain_count(contest, variant))
        self.assertEqual([branch.replies for branch in found], sorted(expected))
        for branch in found:
            self.assertEqual([branch.told, branch.spent, branch.last_sizes], expected[branch.replies])
            self.assertIn(branch.filled, everything)
            self.assertEqual(sum(one != other for one, other in zip(branch.filled, roll)), branch.spent)
            self.assertEqual(tuple(lead(contest, branch.filled).answers()), branch.replies)
            self.assertEqual(branch.filled, self.filled(contest, roll, free, only, branch))
        counts = []
        for branch in found:
            if branch.told not in counts:
                counts.append(branch.told)
        self.assertEqual(reach(contest, roll, changed=changed, free=free, only=only), counts)
        return len(everything) > len(found) > 1

    def filled(self, contest, roll, free, only, branch):
        """The filled roll as [30] tells it, ballot by ballot."""
        course = Course(contest, len(roll) + free)
        for answer in branch.replies:
            course.take(answer)
        blocks = [[contest.markings()[number] for number in markings] for markings, _, _ in course.blocks()]
        held, found = [0] * len(blocks), [None] * (len(roll) + free)
        fixed = [only is not None and ballot not in only for ballot in range(len(roll))]
        for stays in (True, False):
            for ballot, marking in enumerate(roll):
                at = next(at for at, block in enumerate(blocks) if marking in block)
                if fixed[ballot] == stays and (stays or held[at] < branch.last_sizes[at]):
                    held[at] += 1
                    found[ballot] = marking
        for ballot, marking in enumerate(found):
            if marking is None:
                at = next(at for at, size in enumerate(branch.last_sizes) if held[at] < size)
                held[at] += 1
                found[ballot] = blocks[at][0]
        self.assertEqual(tuple(held), branch.last_sizes)
        return tuple(found)

    def test_the_shelf(self):
        many = 0
        for seed in range(80):
            maker = Maker(seed)
            word = sorted(SHELF)[seed % len(SHELF)]
            names = NAMES[:maker.one_of((2, 3, 3))]
            contest = contest_of(shelf_text(word, maker.one_of((1, 2))), names, maker.random.sample(names, len(names)))
            many += self.settle(maker, contest)
        self.assertGreater(many, 40)

    def test_rules_of_all_kinds(self):
        many = 0
        for seed in range(200, 500):
            maker = Maker(seed)
            names = NAMES[:maker.one_of((2, 2, 3))]
            contest = Contest(names, maker.random.sample(names, len(names)), maker.rule(FORMS[seed % len(FORMS)]))
            many += self.settle(maker, contest)
        self.assertGreater(many, 20)

    def settle(self, maker, contest):
        roll = [maker.one_of(contest.markings()) for _ in range(maker.random.randrange(6))]
        changed, free = maker.one_of((0, 1, 1, 2, 3)), maker.one_of((0, 0, 1, 2))
        while len(contest.markings()) ** (min(changed, len(roll)) + free) > 300:
            changed, free = max(changed - 1, 0), free // 2
        only = None
        if roll and maker.random.randrange(2):
            only = [maker.random.randrange(len(roll)) for _ in range(maker.random.randrange(5))]
        return self.check(contest, roll, changed, free, only)

    def test_more_changed_than_there_are(self):
        roll = roll_of(MOST, "ann", "bo")
        self.check(MOST, roll, 5, 0, None)
        self.check(MOST, roll, 40, 1, [1, 1])
        self.check(MOST, [], 3, 2, None)
        self.check(MOST, [], 3, 2, [])
        self.check(MOST, roll, 2, 1, [])

    def test_a_great_roll(self):
        """All sizes of two blocks, with 40 ballots."""
        contest = contest_of(rule_text("ask mark 0", "tally score", form="one"), names=("ann", "bo"))
        roll = roll_of(contest, *["ann"] * 20, *["-"] * 20)
        self.assertEqual([branch.last_sizes for branch in branches(contest, roll, changed=3)],
                         [(20 + way, 20 - way) for way in range(-3, 4)])
        self.assertEqual([branch.spent for branch in branches(contest, roll, changed=3)], [3, 2, 1, 0, 1, 2, 3])
        self.assertEqual([branch.last_sizes for branch in branches(contest, roll[:39], free=1, changed=1, only=[0, 38])],
                         [(19 + way, 21 - way) for way in range(-1, 3)])
        self.assertEqual(len(list(branches(contest, roll, changed=40))), 41)


class ByHand(unittest.TestCase):
    def test_the_order(self):
        roll = roll_of(TICKS, "ann", "bo")
        self.assertEqual([branch.replies for branch in branches(TICKS, roll, changed=1)],
                         [(((0, 2),), ((0, 0), (1, 1))), (((0, 2),), ((0, 0), (2, 0))),
                          (((1, 1),), ((0, 1), (0, 1))), (((1, 1),), ((0, 1), (1, 0))), (((1, 1),), ((1, 0), (1, 0))),
                          (((2, 0),), ((0, 2), (0, 0))), (((2, 0),), ((1, 1), (0, 0)))])
        self.assertEqual([branch.last_sizes for branch in branches(TICKS, roll, changed=1)],
                         [(0, 0, 1, 1), (0, 0, 2, 0), (0, 1, 0, 1), (0, 1, 1, 0), (1, 0, 1, 0), (0, 2, 0, 0), (1, 1, 0, 0)])
        self.assertEqual([branch.spent for branch in branches(TICKS, roll, changed=1)], [1, 1, 1, 0, 1, 1, 1])

    def test_the_filled_roll(self):
        roll = roll_of(MOST, "bo", "bo", "ann", "bo")
        # The blocks are those of -, ann, bo and cy, in the order of their markings: -, cy, bo, ann.
        by_sizes = {branch.last_sizes: branch.filled for branch in branches(MOST, roll, changed=2, free=1)}
        blank, ann, bo, cy = roll_of(MOST, "-", "ann", "bo", "cy")
        self.assertEqual(by_sizes[(1, 0, 3, 1)], (bo, bo, ann, bo, blank))
        self.assertEqual(by_sizes[(1, 1, 2, 1)], (bo, bo, ann, blank, cy))
        self.assertEqual(by_sizes[(1, 1, 1, 2)], (bo, blank, ann, cy, ann))
        self.assertEqual(by_sizes[(0, 0, 5, 0)], (bo, bo, bo, bo, bo))
        # The last one must stay, and takes the place of the first one.
        fixed = {branch.last_sizes: branch.filled for branch in branches(MOST, roll, changed=2, free=1, only=[0, 1, 2])}
        self.assertEqual(fixed[(1, 1, 1, 2)], (blank, cy, ann, bo, ann))
        self.assertEqual(fixed[(1, 1, 2, 1)], (bo, blank, ann, bo, cy))

    def test_blocks_of_several_markings(self):
        # At the end one block has all markings without a mark for bo, and the other one all with a mark.
        contest = contest_of(rule_text("ask mark 1 from 1", "sum x"))
        roll = roll_of(contest, "cy > bo", "bo > ann", "ann")
        found = told(contest, roll, changed=1, free=1)
        self.assertEqual([row[2] for row in found], [(0, 4), (1, 3), (2, 2), (3, 1)])
        lowest = [marking for marking in contest.markings() if marking[1] > 0][0]
        self.assertEqual(found[0][3], (*roll[:2], lowest, lowest))
        self.assertEqual(found[3][3], (roll[0], (0, 0, 0), roll[2], (0, 0, 0)))
        self.assertEqual(found[3][1], 1)

    def test_without_changes(self):
        for roll in ([], roll_of(ROUNDS, "ann > bo", "bo", "cy > bo > ann")):
            course = lead(ROUNDS, roll)
            self.assertEqual(told(ROUNDS, roll), [(plain_count(ROUNDS, roll), 0, tuple(course.sizes()), tuple(roll),
                                                   tuple(course.answers()))])
            self.assertEqual(told(ROUNDS, roll, changed=2, only=[]), told(ROUNDS, roll))
            self.assertEqual(reach(ROUNDS, roll), [plain_count(ROUNDS, roll)])

    def test_rules_without_questions(self):
        for roll, free in (([], 0), ([], 2), (roll_of(PLAIN, "ann", "bo > cy"), 0), (roll_of(PLAIN, "ann", "bo > cy"), 1)):
            many = len(roll) + free
            count = Count((("seat", 2), ("tell", (many, 1))), (2,), "whole")
            self.assertEqual(told(PLAIN, roll, changed=5, free=free),
                             [(count, 0, (many,), (*roll, *[(0, 0, 0)] * free), ())])
            self.assertEqual(reach(PLAIN, roll, changed=5, free=free), [count])

    def test_no_ballots(self):
        found = told(MOST, [], free=1)
        # The answers go by labels, and so from cy to none; the blocks stand as their markings do.
        self.assertEqual([row[4] for row in found],
                         [(((0, 0, 0, 1),),), (((0, 0, 1, 0),),), (((0, 1, 0, 0),),), (((1, 0, 0, 0),),)])
        self.assertEqual([row[2] for row in found], [(0, 1, 0, 0), (0, 0, 1, 0), (0, 0, 0, 1), (1, 0, 0, 0)])
        self.assertEqual([row[3] for row in found], [((0, 0, 1),), ((0, 1, 0),), ((1, 0, 0),), ((0, 0, 0),)])
        self.assertEqual([row[0].seats for row in found], [(2,), (1,), (0,), (0,)])
        self.assertEqual(len(told(MOST, [], changed=7)), 1)

    def test_equal(self):
        roll = roll_of(MOST, "ann", "bo")
        branch = first(MOST, roll, changed=1)
        self.assertTrue(branch == first(MOST, roll, changed=1, only=[0, 1]))
        self.assertTrue(branch == first(MOST, tuple(roll), changed=1))
        for other in (*list(branches(MOST, roll, changed=1))[1:], None, branch.replies, branch.filled, branch.told):
            self.assertFalse(branch == other)
            self.assertTrue(branch != other)
        # Equal answers, but other ballots stay in their places.
        others = [first(MOST, ballots, changed=1) for ballots in (roll, roll[::-1])]
        self.assertEqual(others[0].replies, others[1].replies)
        self.assertEqual(others[0] == others[1], others[0].filled == others[1].filled)
        same = [list(branches(MOST, ballots, changed=0))[0] for ballots in (roll, roll[::-1])]
        self.assertEqual(same[0].replies, same[1].replies)
        self.assertFalse(same[0] == same[1])

    def test_kinds_of_values(self):
        branch = first(TICKS, roll_of(TICKS, "ann", "bo"), changed=1, free=1)
        self.assertIs(type(branch), Branch)
        self.assertEqual([type(value) for value in parts_of(branch)], [Count, int, tuple, tuple, tuple])
        self.assertEqual(len(branch.replies), 2)
        self.assertTrue(all(type(row) is tuple for answer in branch.replies for row in answer))
        self.assertEqual([type(value) for value in (reach(TICKS, []), reach(TICKS, [])[0])], [list, Count])

    def test_reach_keeps_the_order_and_no_doubles(self):
        contest = contest_of(rule_text("ask mark 0", "ask mark 1", "if 2 < votes", "seat 1", "end", form="ticks"))
        self.assertGreater(len(told(contest, [], free=2)), 5)
        self.assertEqual(reach(contest, [], free=2), [Count((), (), "whole")])
        found = reach(MOST, [], free=1)
        self.assertEqual([count.history[0][2] for count in found],
                         [((0, 1), (0, 1), (1, 1)), ((0, 1), (1, 1), (0, 1)), ((1, 1), (0, 1), (0, 1)), ((0, 1),) * 3])

    def test_ends_ahead_of_the_last_statement(self):
        contest = contest_of(rule_text("ask mark 0", "sum x", "if x", "times 20", "weigh 0 by 1", "end", "weigh 0 by 1",
                                       "end",
                                       "ask mark 1", "seat 0", form="ticks"), names=("ann", "bo"))
        self.assertEqual({count.end for count in reach(contest, roll_of(contest, "ann", "bo"), changed=1)},
                         {"weighs", "whole"})


class Errors(unittest.TestCase):
    def first(self, *values, **more):
        return next(branches(*values, **more))

    def calls(self):
        return (self.first, reach)

    def test_rolls(self):
        for call in self.calls():
            for roll, at in ((None, -1), (7, -1), ("ann", -1), ({}, -1), ([None], 0), ([(1, 0, 0), [1, 0, 0]], 1),
                             (((1, 0, 0), (1, 1, 0)), 1), ([(True, 0, 0)], 0)):
                self.assertEqual(caught(InvalidRoll, call, MOST, roll), (at,))
            self.assertEqual(caught(TooMany, call, MOST, [(1, 0, 0)] * 41), ("ballots", 40))

    def test_numbers(self):
        for call in self.calls():
            for value in (-1, 41, True, False, None, "1", (1,), [1], One()):
                self.assertEqual(caught(InvalidNumber, call, MOST, [], changed=value), (value,))
                self.assertEqual(caught(InvalidNumber, call, MOST, [], free=value), (value,))
            self.assertIsNone(caught(CountError, call, PLAIN, [], changed=40, free=40))
            self.assertEqual(caught(TooMany, call, MOST, [(1, 0, 0)], free=40), ("ballots", 40))

    def test_only(self):
        roll = [(1, 0, 0)] * 3
        for call in self.calls():
            for only, wrong in (([3], 3), ([0, -1, 7], -1), ([0, 1, 2, True], True), (["0"], "0"), ([0, None], None),
                                ([1, 1, (0,), 9], (0,)), ((0, 5), 5), ([2, [1]], [1]), ([0, False], False)):
                self.assertEqual(caught(InvalidNumber, call, MOST, roll, only=only), (wrong,))
            self.assertEqual(caught(InvalidNumber, call, MOST, [], only=[0]), (0,))
            self.assertIsNone(caught(CountError, call, MOST, roll, changed=1, only=[2, 0, 2, 2, 0]))

    def test_their_order(self):
        ballot = (1, 0, 0)
        for call in self.calls():
            self.assertEqual(caught(InvalidRoll, call, MOST, [1] * 41, changed=-1, free=-2, only=[-3]), (0,))
            self.assertEqual(caught(TooMany, call, MOST, [ballot] * 41, changed=-1, free=-2, only=[-3]), ("ballots", 40))
            self.assertEqual(caught(InvalidNumber, call, MOST, [ballot] * 40, changed=-1, free=-2, only=[-3]), (-1,))
            self.assertEqual(caught(InvalidNumber, call, MOST, [ballot] * 40, changed=1, free=-2, only=[-3]), (-2,))
            self.assertEqual(caught(TooMany, call, MOST, [ballot] * 40, changed=1, free=1, only=[-3]), ("ballots", 40))
            self.assertEqual(caught(InvalidNumber, call, MOST, [ballot] * 39, changed=1, free=1, only=[-3]), (-3,))

    def test_at_the_first_item(self):
        for values, more in (((MOST, None), {}), ((MOST, []), {"changed": -1}), ((MOST, []), {"only": [0]})):
            made = branches(*values, **more)
            with self.assertRaises(CountError):
                next(made)

    def test_arguments_stay_and_are_not_kept(self):
        roll, only = roll_of(MOST, "ann", "bo", "cy"), [0, 2]
        expected = told(MOST, roll, changed=2, free=1, only=only)
        made = branches(MOST, roll, changed=2, free=1, only=only)
        found = [next(made)]
        self.assertEqual((roll, only), (roll_of(MOST, "ann", "bo", "cy"), [0, 2]))
        roll.clear()
        only[:] = [1]
        found.extend(made)
        self.assertEqual([parts_of(branch) for branch in found], expected)
        reach(MOST, [], free=1).clear()
        self.assertEqual(len(reach(MOST, [], free=1)), 4)

    def test_names_of_arguments(self):
        values = {"contest": MOST, "roll": [], "changed": 0, "free": 1, "only": None}
        self.assertEqual(len(list(branches(**values))), 4)
        self.assertEqual(len(reach(**values)), 4)


class Bounds(unittest.TestCase):
    """How many branches there are is how many ways there are to put 40 ballots into blocks."""

    def walk(self, contest, roll, **more):
        """How many branches are told, and what is raised behind them."""
        many, made = 0, branches(contest, roll, **more)
        try:
            for _ in made:
                many += 1
        except TooMany as error:
            return many, (error.what, error.most)
        return many, None

    def test_ways(self):
        four = contest_of(rule_text("ask mark 0", "ask mark 1", form="ticks", row="", num=""), names=("ann", "bo"))
        # 41 * 42 * 43 / 6 ways for four blocks.
        self.assertEqual(self.walk(four, [], free=40), (12341, None))

    def test_exactly_as_many_as_may_be(self):
        body = ("ask mark 0", "sum x", "if 7 < x and x < 27", "ask mark 1", "end", "if x = 40", "ask mark 1", "ask mark 2",
                "end")
        contest = contest_of(rule_text(*body, form="ticks"))
        # Of x ballots with a mark and 40 - x without, both sorts are parted in two, or the one in four, or neither is.
        ways = sum((x + 1) * (41 - x) if 7 < x < 27 else 41 * 42 * 43 // 6 if x == 40 else 1 for x in range(41))
        self.assertEqual(ways, 20000)
        self.assertEqual(self.walk(contest, [], free=40), (20000, None))
        # With one more x the last 41 - 1 branches are too many.
        more = contest_of(rule_text(*body, "if x = 0", "ask mark 1", "end", form="ticks"))
        self.assertEqual(self.walk(more, [], free=40), (20000, ("branches", 20000)))

    def test_reach(self):
        self.assertEqual(caught(TooMany, reach, FIVE, [], free=24), ("branches", 20000))
        self.assertEqual(reach(FIVE, [], free=23), [Count((), (), "whole")])

    def test_five_blocks(self):
        # The ways to put 23 or 24 ballots into five blocks.
        self.assertEqual(self.walk(FIVE, [], free=23), (17550, None))
        self.assertEqual(self.walk(FIVE, [], free=24), (20000, ("branches", 20000)))
