"""Ghosts and mixed rolls, and the main facts of [25]."""

import unittest

from helpers import SHELF, bundles_of, contest_of, hands_of, roll_of, rule_text, shelf_text
from reference_house import Setting
from soleheld.counts import Count, plain_count
from soleheld.courses import Course
from soleheld.ghosts import ghosts, has_sizes, mixed_roll
from soleheld.houses import House
from soleheld.seals import FlatSeal, MadeSeal, OwnSeal, WholeSeal
from soleheld.staffs import Staff
from soleheld.voices import ChangedVoice, SilentVoice, TrueVoice

ROUNDS = contest_of(shelf_text("rounds"))
TICKS = contest_of(rule_text("ask mark 0", "ask mark 1", "seat 1", form="ticks"), names=("ann", "bo"))
GOOD_SEALS = (WholeSeal(), OwnSeal(lambda text: text + "."))


def house_of(contest, texts, lists, seal=WholeSeal(), **voices):
    """A house over bundles of ballot texts, and its hands."""
    hands = hands_of(contest, *texts)
    staff = Staff(*[list(row) for row in lists])
    told = {person: TrueVoice(contest, hands) for person in staff.persons()} | voices
    return House(contest, bundles_of(contest, hands, seal), staff, told, seal=seal), hands


def papers_roll(hands):
    return [marking for papers in hands for _, _, _, marking in papers]


class Ghosts(unittest.TestCase):
    def test_ahead_of_the_turns(self):
        house, _ = house_of(ROUNDS, [("ann", "bo"), (), ("cy",)], ["p", "q", "p"])
        self.assertEqual(ghosts(house), [[(0, 0, 0)] * 2, [], [(0, 0, 0)]])
        self.assertEqual(ghosts(house=house), ghosts(house))
        self.assertEqual([type(value) for value in (ghosts(house), ghosts(house)[0])], [list, list])

    def test_amid_and_behind_the_turns(self):
        house, _ = house_of(TICKS, [("ann bo", "ann", "bo", "ann bo"), ("-",)], ["p", "p"])
        house.turn()
        # The blocks are those of [-, bo] and [ann, ann bo]; their least markings are - and ann.
        self.assertEqual(ghosts(house), [[(0, 0), (1, 0), (1, 0), (1, 0)], [(0, 0)]])
        house.turn()
        self.assertEqual(ghosts(house), [[(0, 1), (1, 0), (1, 1), (1, 1)], [(0, 0)]])
        self.assertTrue(house.ended)

    def test_the_example(self):
        # The first example of [36]: the ghosts of the second bundle are two blank ballots.
        lies = ChangedVoice(SilentVoice(), {("sheet", 0, 0): ((0, 2, 1, 0),), ("which", 0, 0, 0, 1): (0, 2),
                                            ("show", 0, 2): (2, "cy > bo")})
        house, hands = house_of(ROUNDS, [("ann > bo", "bo", "cy > bo"), ("ann", "bo > ann")], ["pq", "q"], q=lies)
        count = house.run()
        self.assertEqual(house.struck(), [("q", "wrong")])
        self.assertEqual(ghosts(house)[1], [(0, 0, 0), (0, 0, 0)])
        roll = mixed_roll(house, hands, ["q"])
        self.assertEqual(roll, roll_of(ROUNDS, "ann > bo", "bo", "cy > bo", "-", "-"))
        self.assertEqual((plain_count(ROUNDS, roll), count.seats), (count, (1,)))

    def test_no_bundles(self):
        house, hands = house_of(ROUNDS, [], [])
        self.assertEqual((ghosts(house), mixed_roll(house, hands, [])), ([], []))
        house.run()
        self.assertEqual((ghosts(house), mixed_roll(house, hands, ["p"])), ([], []))

    def test_behind_a_clash(self):
        lies = ChangedVoice(SilentVoice(), {("sheet", 0, 0): ((2, 0),), ("which", 0, 0, 0, 0): (0, 1),
                                            ("show", 0, 1): (5, "-")})
        house, hands = house_of(TICKS, [("-", "ann")], ["pq"], seal=FlatSeal(), q=lies)
        house.run()
        self.assertEqual(house.entries()[-1], ("clash", 0, 1))
        self.assertEqual(ghosts(house), [[(0, 0), (0, 0)]])
        self.assertEqual(mixed_roll(house, hands, ["p", "q"]), [(0, 0), (0, 0)])

    def test_what_is_told_is_new(self):
        house, hands = house_of(ROUNDS, [("ann", "bo")], ["p"])
        ghosts(house)[0].clear()
        mixed_roll(house, hands, []).clear()
        self.assertEqual((ghosts(house), mixed_roll(house, hands, [])), ([[(0, 0, 0)] * 2], roll_of(ROUNDS, "ann", "bo")))


class MixedRolls(unittest.TestCase):
    def test_groups(self):
        house, hands = house_of(ROUNDS, [("ann", "bo"), ("cy",), ("bo",)], ["pq", "q", "rq"])
        blank = (0, 0, 0)
        ann, bo, cy = roll_of(ROUNDS, "ann", "bo", "cy")
        for group, roll in (([], [ann, bo, cy, bo]), (["q"], [ann, bo, blank, bo]), (["p", "q"], [blank, blank, blank, bo]),
                            (["r", "q", "q", "x"], [ann, bo, blank, blank]), (["p", "r"], [ann, bo, cy, bo]),
                            (("q", "p", "r"), [blank] * 4),
                            (["x"], [ann, bo, cy, bo])):
            self.assertEqual(mixed_roll(house, hands, group), roll)
            self.assertEqual(mixed_roll(group=tuple(group), hands=tuple(tuple(papers) for papers in hands), house=house),
                             roll)
            self.assertIs(type(mixed_roll(house, hands, group)), list)

    def test_arguments_stay(self):
        house, hands = house_of(ROUNDS, [("ann", "bo")], ["p"])
        kept, group = [list(papers) for papers in hands], ["p", "x"]
        mixed_roll(house, hands, group).append(1)
        self.assertEqual((hands, group), (kept, ["p", "x"]))


class HasSizes(unittest.TestCase):
    def test_sizes(self):
        course = Course(TICKS, 3)
        roll = roll_of(TICKS, "ann", "ann bo", "-")
        self.assertIs(has_sizes(course, roll, [3]), True)
        for sizes in ([2], [4], [], [3, 0], [0, 3], (), (1, 2)):
            self.assertIs(has_sizes(course, roll, sizes), False)
        course.take(((1, 2),))
        for sizes in ([1, 2], (1, 2)):
            self.assertIs(has_sizes(course, roll, sizes), True)
        for sizes in ([2, 1], [1], [1, 2, 0], [3], [], [0, 3], (1, 1)):
            self.assertIs(has_sizes(course, roll, sizes), False)
        self.assertIs(has_sizes(sizes=[1, 1], roll=roll[1:], course=course), True)
        self.assertIs(has_sizes(course, [], [0, 0]), True)
        self.assertEqual(course.sizes(), [1, 2])

    def test_behind_the_end(self):
        course = Course(TICKS, 2)
        course.take(((0, 2),))
        course.take(((0, 0), (1, 1)))
        self.assertIs(has_sizes(course, roll_of(TICKS, "ann bo", "ann"), [0, 0, 1, 1]), True)
        self.assertIs(has_sizes(course, roll_of(TICKS, "ann", "ann"), [0, 0, 1, 1]), False)


class MainFacts(unittest.TestCase):
    def contest(self, word, seats, many):
        return contest_of(shelf_text(word, seats), names=("ann", "bo", "cy", "dee")[:many])

    def house(self, setting):
        bundles = bundles_of(setting.contest, setting.hands, setting.seal)
        return House(setting.contest, bundles, Staff(*setting.lists), setting.voices, seal=setting.seal,
                     chooser=setting.chooser)

    def test_the_count_is_that_of_the_mixed_roll(self):
        many = 0
        for seed in range(3000, 3500):
            setting = Setting(seed, sorted(SHELF), self.contest, GOOD_SEALS)
            house = self.house(setting)
            while not house.ended:
                roll = mixed_roll(house, setting.hands, setting.liars)
                self.assertTrue(has_sizes(house.course(), roll, house.course().sizes()))
                house.turn()
            roll = mixed_roll(house, setting.hands, setting.liars)
            self.assertTrue(has_sizes(house.course(), roll, house.course().sizes()))
            self.assertEqual(plain_count(setting.contest, roll), house.result)
            self.assertEqual([len(papers) for papers in ghosts(house)], [len(papers) for papers in setting.hands])
            many += roll != papers_roll(setting.hands)
        self.assertGreater(many, 100)

    def test_under_poor_seals_too(self):
        counts = 0
        for seed in range(4000, 4200):
            setting = Setting(seed, sorted(SHELF), self.contest, (MadeSeal(2), FlatSeal(), MadeSeal(5)))
            house = self.house(setting)
            if isinstance(house.run(), Count):
                counts += 1
                self.assertEqual(plain_count(setting.contest, mixed_roll(house, setting.hands, setting.liars)),
                                 house.result)
            self.assertLessEqual({person for person, _ in house.struck()}, set(setting.liars))
        self.assertGreater(counts, 50)

    def test_a_true_person_over_each_bundle(self):
        struck = 0
        for seed in range(5000, 5200):
            setting = Setting(seed, sorted(SHELF), self.contest, GOOD_SEALS, safe=True)
            house = self.house(setting)
            self.assertEqual(house.run(), plain_count(setting.contest, papers_roll(setting.hands)))
            self.assertEqual(mixed_roll(house, setting.hands, setting.liars), papers_roll(setting.hands))
            struck += len(house.struck())
        self.assertGreater(struck, 50)

    def test_liars_who_speak_truly_of_another_roll(self):
        for seed in range(6000, 6200):
            setting = Setting(seed, sorted(SHELF), self.contest, GOOD_SEALS)
            staff = Staff(*setting.lists)
            sole = staff.sole(setting.liars)
            hands = [other if bundle in sole else papers
                     for bundle, (papers, other) in enumerate(zip(setting.hands, setting.others))]
            voices = {person: TrueVoice(setting.contest,
                                        hands if person in setting.liars else setting.hands) for person in setting.persons}
            bundles = bundles_of(setting.contest, setting.hands, setting.seal)
            house = House(setting.contest, bundles, staff, voices, seal=setting.seal, chooser=setting.chooser)
            self.assertEqual(house.run(), plain_count(setting.contest, papers_roll(hands)))
            self.assertEqual((house.struck(), house.openings), ([], 0))
