"""Houses: turns, quarrels, openings, clashes, and what is noted of them."""

import unittest

from helpers import SHELF, bundles_of, caught, contest_of, hands_of, rule_text, shelf_text
from reference_house import PlainHouse, Setting
from soleheld.books import sealed_text
from soleheld.counts import Count, plain_count
from soleheld.courses import Course
from soleheld.errors import BadStaff, CountError, Ended, Missing, NoName, TooLate, TooMany
from soleheld.houses import Clash, House
from soleheld.seals import FlatSeal, MadeSeal, OwnSeal, WholeSeal
from soleheld.staffs import Staff
from soleheld.voices import ChangedVoice, OwnVoice, SilentVoice, TrueVoice

ROUNDS = contest_of(shelf_text("rounds"))
MOST = contest_of(shelf_text("most"))
TICKS = contest_of(rule_text("ask mark 0", "ask mark 1", "seat 1", form="ticks"), names=("ann", "bo"))
PLAIN = contest_of(rule_text("seat 2", "tell votes"))
FIRST = ("ann > bo", "bo", "cy > bo")
TRUE_ROW = (0, 1, 1, 1)


class Logged:
    """A voice that keeps what it is asked in a list that all share."""

    def __init__(self, person, voice, log):
        self.person, self.voice, self.log = person, voice, log

    def sheet(self, question, bundle, due):
        self.log.append(("sheet", question.number, bundle, self.person, due))
        return self.voice.sheet(question, bundle, due)

    def which(self, question, bundle, part, sub):
        self.log.append(("which", question.number, bundle, self.person, part, sub))
        return self.voice.which(question, bundle, part, sub)

    def show(self, bundle, ballot):
        self.log.append(("show", bundle, ballot, self.person))
        return self.voice.show(bundle, ballot)


class Made:
    """A house over bundles of ballot texts, with changed true voices, and all that its persons were asked."""

    def __init__(self, texts, lists, changes=(), contest=ROUNDS, seal=WholeSeal(), chooser=(), **voices):
        self.log = []
        self.hands = hands_of(contest, *texts)
        self.bundles = bundles_of(contest, self.hands, seal)
        self.staff = Staff(*[list(row) for row in lists])
        told = {person: ChangedVoice(TrueVoice(contest, self.hands),
                                     dict(changes).get(person, {})) for person in self.staff.persons()}
        told.update(voices)
        told = {person: Logged(person, voice, self.log) for person, voice in told.items()}
        self.house = House(contest, self.bundles, self.staff, told, seal=seal, chooser=chooser)


def state(house):
    """All that a house tells, in lists of its own."""
    return (house.question, house.ended, house.result, house.openings, list(house.struck()), list(house.blocks()),
            list(house.entries()), house.course().twin(), [list(house.taken(bundle)) for bundle in range(len(house.staff))],
            repr(house))


class Making(unittest.TestCase):
    def house(self, bundles, lists, voices=None, **more):
        staff = Staff(*[list(row) for row in lists])
        if voices is None:
            voices = {person: SilentVoice() for person in staff.persons()}
        return House(MOST, bundles, staff, voices, seal=WholeSeal(), **more)

    def slips(self, number):
        return tuple(("hall", at, "code") for at in range(number))

    def test_attributes(self):
        made = Made([FIRST], ["pq"])
        house = made.house
        self.assertEqual((house.contest, house.staff), (ROUNDS, made.staff))
        self.assertEqual((house.question, house.ended, house.result, house.openings),
                         (Course(ROUNDS, 3).question, False, None, 0))
        self.assertEqual((house.struck(), house.taken(0), house.entries()), ([], [3], []))
        self.assertEqual((house.blocks(), house.course()), ([(tuple(range(16)), -2, (1, 1))], Course(ROUNDS, 3)))
        self.assertEqual(repr(house), "House(0 turns, open)")
        self.assertEqual(made.log, [])

    def test_too_many_bundles(self):
        self.assertEqual(caught(TooMany, self.house, [()] * 13, []), ("bundles", 12))
        # This is refused ahead of all else.
        self.assertEqual(caught(TooMany, self.house, [self.slips(41)] * 13, ["a"], {}), ("bundles", 12))
        self.assertEqual(self.house([()] * 12, ["a"] * 12).course().votes, 0)

    def test_too_many_ballots(self):
        self.assertEqual(caught(TooMany, self.house, [self.slips(41)], ["a"]), ("ballots", 40))
        self.assertEqual(caught(TooMany, self.house, [self.slips(20), self.slips(21)], ["a"], {}), ("ballots", 40))
        self.assertEqual(self.house([self.slips(40)], ["a"]).course().votes, 40)
        self.assertEqual(self.house([self.slips(4)] * 10, ["a"] * 10).course().votes, 40)

    def test_another_number_of_lists(self):
        for lists in ([], ["a"], ["a", "a", "a"]):
            with self.assertRaises(BadStaff) as error:
                self.house([self.slips(1)] * 2, lists, {})
            self.assertEqual(error.exception.bundle, -1)
            self.assertIsInstance(error.exception, CountError)

    def test_a_person_without_a_voice(self):
        voice = SilentVoice()
        for voices, person in (({}, "c"), ({"c": voice}, "a"), ({"c": voice, "a": voice}, "b"),
                               ({"b": voice, "x": voice}, "c")):
            with self.assertRaises(NoName) as error:
                self.house([self.slips(1)] * 2, ["ca", "ab"], voices)
            self.assertEqual(error.exception.word, person)
            self.assertIsInstance(error.exception, Missing)

    def test_others_than_persons_mean_nothing(self):
        voice = SilentVoice()
        house = self.house([self.slips(1)], ["a"], {"x": None, "a": voice, "b": voice})
        house.run()
        self.assertEqual(house.struck(), [("a", "silent")])

    def test_by_name(self):
        with self.assertRaises(TypeError):
            House(MOST, [], Staff(), {}, WholeSeal())
        with self.assertRaises(TypeError):
            House(MOST, [], Staff(), {})
        house = House(chooser=[1], seal=WholeSeal(), voices={"a": SilentVoice()}, staff=Staff(["a"]),
                      bundles=[self.slips(2)], contest=MOST)
        self.assertEqual(house.course().votes, 2)

    def test_what_is_handed_in(self):
        hands = hands_of(ROUNDS, FIRST, ["bo"], ["bo"])
        bundles = bundles_of(ROUNDS, hands)
        voices = {"p": TrueVoice(ROUNDS, hands), "q": SilentVoice()}
        chooser = [1]
        house = House(ROUNDS, bundles, Staff(["p"], ["q"], ["p"]), voices, seal=WholeSeal(), chooser=chooser)
        bundles.clear()
        voices.clear()
        chooser[0] = 0
        house.run()
        self.assertEqual([entry[2] for entry in house.entries() if entry[0] == "taken"][:3], [1, 2, 0])
        bundles, voices, chooser = bundles_of(ROUNDS, hands), {"q": SilentVoice(), "p": SilentVoice()}, [2, 1]
        kept = (list(bundles), dict(voices), list(chooser))
        House(ROUNDS, bundles, Staff(["p"], ["q"], ["p"]), voices, seal=WholeSeal(), chooser=chooser).run()
        self.assertEqual((bundles, voices, chooser), kept)
        self.assertEqual(list(voices), ["q", "p"])

    def test_bundles_that_are_changed_afterwards(self):
        hands = hands_of(ROUNDS, FIRST)
        bundle = list(bundles_of(ROUNDS, hands)[0])
        bundles = [bundle]
        lies = ChangedVoice(TrueVoice(ROUNDS, hands), {("sheet", 0, 0): [[0, 2, 1, 0]], ("which", 0, 0, 0, 1): [0, 2]})
        house = House(ROUNDS, bundles, Staff(["p", "q"]), {"p": TrueVoice(ROUNDS, hands), "q": lies}, seal=WholeSeal())
        bundles.append(())
        bundle.clear()
        house.turn()
        self.assertEqual((house.struck(), house.openings), ([("q", "wrong")], 1))

    def test_bundles_and_chooser_as_tuples_and_lists(self):
        hands = hands_of(ROUNDS, FIRST, ["bo"])
        found = []
        for kind in (list, tuple):
            bundles = kind(kind(bundle) for bundle in bundles_of(ROUNDS, hands))
            voices = {"p": TrueVoice(ROUNDS, kind(kind(papers) for papers in hands))}
            house = House(ROUNDS, bundles, Staff(["p"], ["p"]), voices, seal=WholeSeal(), chooser=kind([1]))
            house.run()
            found.append(house.entries())
        self.assertEqual(found[0], found[1])


class Small(unittest.TestCase):
    def test_no_bundles(self):
        house = Made([], []).house
        self.assertEqual(repr(house), "House(0 turns, open)")
        house.turn()
        self.assertEqual((house.entries(), repr(house), house.question.number), ([], "House(1 turns, open)", 1))
        self.assertEqual(house.run(), plain_count(ROUNDS, []))
        self.assertEqual(house.entries(), [("told", "whole", (0,))])
        self.assertEqual(house.course().answers()[0], ((0, 0, 0, 0),))

    def test_no_ballots(self):
        made = Made([[], []], ["pq", "q"])
        self.assertEqual(made.house.run(), plain_count(ROUNDS, []))
        self.assertEqual((made.house.entries(), made.log), ([("told", "whole", (0,))], []))
        self.assertEqual(made.house.taken(1), [0] * len(made.house.blocks()))

    def test_no_questions(self):
        made = Made([FIRST, ["bo"]], ["p", "q"], contest=PLAIN)
        house = made.house
        count = Count((("seat", 2), ("tell", (4, 1))), (2,), "whole")
        self.assertEqual((house.ended, house.result, house.question, repr(house)),
                         (True, count, None, "House(0 turns, ended)"))
        self.assertEqual(house.entries(), [("told", "whole", (2,))])
        self.assertEqual((made.log, house.taken(0), house.taken(1), house.openings), ([], [3], [1], 0))
        self.assertEqual(caught(Ended, house.turn), ())
        self.assertEqual(house.run(), count)
        self.assertEqual(len(house.entries()), 1)

    def test_an_end_that_is_not_whole(self):
        contest = contest_of(rule_text("seat 0", "times 20", "weigh 0 by 0", "end", "weigh 0 by 0"))
        house = Made([["ann"]], ["p"], contest=contest).house
        self.assertEqual(house.entries(), [("told", "weighs", (0,))])


class Examples(unittest.TestCase):
    """The first two examples of [36]."""

    TEXTS = [FIRST, ("ann", "bo > ann")]

    def test_a_liar_is_struck(self):
        lies = {("sheet", 0, 0): ((0, 2, 1, 0),), ("which", 0, 0, 0, 1): (0, 2)}
        made = Made(self.TEXTS, ["pq", "q"], {"q": lies})
        house = made.house
        (markings, labels, subs), = house.question.parts
        self.assertEqual((len(markings), labels, [len(sub) for sub in subs]), (16, (-1, 0, 1, 2), [1, 5, 5, 5]))
        self.assertIsNone(house.turn())
        first = [("sheet", 0, 0, "p", (TRUE_ROW,)), ("sheet", 0, 0, "q", ((0, 2, 1, 0),)), ("which", 0, 0, "p", 0, 1, (0,)),
                 ("which", 0, 0, "q", 0, 1, (0, 2)), ("opened", 0, 2), ("show", 0, 2, "p", (2, "cy > bo")),
                 ("show", 0, 2, "q", (2, "cy > bo")), ("struck", "q", "wrong"), ("taken", 0, 0, (TRUE_ROW,)),
                 ("taken", 0, 1, ((2, 0, 0, 0),))]
        self.assertEqual(house.entries(), first)
        self.assertEqual((house.struck(), house.openings, repr(house)), ([("q", "wrong")], 1, "House(1 turns, open)"))
        # The blocks stand by their least markings: -, those of cy, bo and ann.
        self.assertEqual((house.taken(0), house.taken(1)), ([0, 1, 1, 1], [2, 0, 0, 0]))
        self.assertEqual((house.question.number, len(house.question.parts)), (1, 1))
        self.assertEqual(house.question.parts[0][1], (-1, 0, 1))
        self.assertEqual(house.question.parts[0][0], house.blocks()[1][0])
        count = house.run()
        self.assertEqual([item[2] for item in count.history if item[0] == "tally"],
                         [((1, 1), (1, 1), (1, 1)), ((1, 1), (2, 1), (0, 1))])
        self.assertEqual((count.seats, count.end, house.result), ((1,), "whole", count))
        self.assertEqual(house.entries(), first + [("sheet", 1, 0, "p", ((0, 0, 1),)), ("taken", 1, 0, ((0, 0, 1),)),
                                                   ("told", "whole", (1,))])
        self.assertEqual(repr(house), "House(2 turns, ended)")

    def test_a_liar_who_holds_a_bundle_alone(self):
        hands = hands_of(ROUNDS, *self.TEXTS)
        others = hands_of(ROUNDS, FIRST, ("cy", "cy"))
        voices = {"p": TrueVoice(ROUNDS, hands), "q": TrueVoice(ROUNDS, others)}
        house = House(ROUNDS, bundles_of(ROUNDS, hands), Staff(["p", "q"], ["q"]), voices, seal=WholeSeal())
        count = house.run()
        self.assertEqual((count.history[0], count.seats), (("tally", "score", ((1, 1), (1, 1), (3, 1))), (2,)))
        self.assertEqual((house.struck(), house.openings), ([], 0))
        self.assertEqual(house.entries(), [("sheet", 0, 0, "p", (TRUE_ROW,)), ("sheet", 0, 0, "q", (TRUE_ROW,)),
                                           ("taken", 0, 0, (TRUE_ROW,)), ("sheet", 0, 1, "q", ((0, 0, 0, 2),)),
                                           ("taken", 0, 1, ((0, 0, 0, 2),)), ("told", "whole", (2,))])


class Striking(unittest.TestCase):
    SHEET = {("sheet", 0, 0): [[0, 2, 1, 0]]}
    SHEETS = [("sheet", 0, 0, "p", (TRUE_ROW,)), ("sheet", 0, 0, "q", ((0, 2, 1, 0),))]
    WHICH = ("which", 0, 0, "p", 0, 1, (0,))

    def check(self, changes, entries, reason, openings=0, person="q", **more):
        made = Made([FIRST], ["pq"], {person: changes}, **more)
        made.house.turn()
        self.assertEqual(made.house.entries(), [*entries, ("struck", person, reason), ("taken", 0, 0, (TRUE_ROW,))])
        self.assertEqual((made.house.struck(), made.house.openings), ([(person, reason)], openings))
        asked = [entry for entry in entries if entry[0] in ("sheet", "which", "show")]
        self.assertEqual([item[:4] for item in made.log], [entry[:4] for entry in asked])
        self.assertEqual(made.house.taken(0), [0, 1, 1, 1])
        made.house.run()
        self.assertEqual([item for item in made.log[len(asked):] if item[3] == person], [])

    def test_for_a_sheet(self):
        for answer, told, reason in ((None, "silent", "silent"), ("no", "shape", "shape"), ([[0, 1, 1]], "shape", "shape"),
                                     ([[0, 1, 1, True]], "shape", "shape"), ([[-1, 2, 1, 1]], ((-1, 2, 1, 1),), "below"),
                                     ([[0, 1, 1, 2]], ((0, 1, 1, 2),), "sum"), (((0, 0, 0, 0),), ((0, 0, 0, 0),), "sum"),
                                     ([TRUE_ROW, TRUE_ROW], "shape", "shape"), ([[10 ** 9, 1, 1, 1]], "shape", "shape")):
            self.check({("sheet", 0, 0): answer}, [("sheet", 0, 0, "p", (TRUE_ROW,)), ("sheet", 0, 0, "q", told)], reason)
            entries = [("sheet", 0, 0, "p", told), ("struck", "p", reason), ("sheet", 0, 0, "q", (TRUE_ROW,)),
                       ("taken", 0, 0, (TRUE_ROW,))]
            house = Made([FIRST], ["pq"], {"p": {("sheet", 0, 0): answer}}).house
            house.turn()
            self.assertEqual(house.entries(), entries)

    def test_for_a_which(self):
        for answer, told, reason in ((None, "silent", "silent"), ("no", "shape", "shape"), ([0, None], "shape", "shape"),
                                     ([0] * 41, "shape", "shape"), ([0], (0,), "rows"), ([2, 0], (2, 0), "rows"),
                                     ([0, 3], (0, 3), "rows"), ([0, 1, 2], (0, 1, 2), "rows"), ([0, 0], (0, 0), "rows"),
                                     ((), (), "rows")):
            self.check({**self.SHEET, ("which", 0, 0, 0, 1): answer},
                       [*self.SHEETS, self.WHICH, ("which", 0, 0, "q", 0, 1, told)], reason)

    def test_for_a_show(self):
        whiches = [self.WHICH, ("which", 0, 0, "q", 0, 1, (0, 2)), ("opened", 0, 2), ("show", 0, 2, "p", (2, "cy > bo"))]
        for answer, told, reason in ((None, "silent", "silent"), ("no", "shape", "shape"), ([2, None], "shape", "shape"),
                                     ((10000, "cy"), "shape", "shape"), ([2, "x" * 61], "shape", "shape"),
                                     ([2, "dee"], (2, "dee"), "spoiled"), ((2, ""), (2, ""), "spoiled"),
                                     ([3, "cy > bo"], (3, "cy > bo"), "seal"), ((2, "ann"), (2, "ann"), "seal")):
            self.check({**self.SHEET, ("which", 0, 0, 0, 1): (0, 2), ("show", 0, 2): answer},
                       [*self.SHEETS, *whiches, ("show", 0, 2, "q", told)], reason, 1)

    def test_as_wrong(self):
        shows = [("show", 0, 2, "p", (2, "cy > bo")), ("show", 0, 2, "q", (2, "cy > bo"))]
        for shown in ((2, "cy > bo"), [2, "cy > bo"]):
            self.check({**self.SHEET, ("which", 0, 0, 0, 1): (0, 2), ("show", 0, 2): shown},
                       [*self.SHEETS, self.WHICH, ("which", 0, 0, "q", 0, 1, (0, 2)), ("opened", 0, 2), *shows], "wrong", 1)

    def test_as_wrong_about_a_ballot_that_is_left_out(self):
        # q says that nobody voted for ann, and lacks ballot 0.
        changes = {("sheet", 0, 0): [[0, 0, 2, 1]], ("which", 0, 0, 0, 1): []}
        entries = [("sheet", 0, 0, "p", (TRUE_ROW,)), ("sheet", 0, 0, "q", ((0, 0, 2, 1),)), self.WHICH,
                   ("which", 0, 0, "q", 0, 1, ()), ("opened", 0, 0), ("show", 0, 0, "p", (0, "ann > bo")),
                   ("show", 0, 0, "q", (0, "ann > bo"))]
        self.check(changes, entries, "wrong", 1)

    def test_when_the_liar_is_x(self):
        changes = {**self.SHEET, ("which", 0, 0, 0, 1): (0, 2)}
        sheets = [("sheet", 0, 0, "p", ((0, 2, 1, 0),)), ("sheet", 0, 0, "q", (TRUE_ROW,))]
        whiches = [("which", 0, 0, "p", 0, 1, (0, 2)), ("which", 0, 0, "q", 0, 1, (0,))]
        shows = [("show", 0, 2, "p", (2, "cy > bo")), ("show", 0, 2, "q", (2, "cy > bo"))]
        self.check(changes, [*sheets, *whiches, ("opened", 0, 2), *shows], "wrong", 1, "p")
        changes = {**self.SHEET, ("which", 0, 0, 0, 1): (0,)}
        self.check(changes, [*sheets, ("which", 0, 0, "p", 0, 1, (0,)), whiches[1]], "rows", 0, "p")
        # With the chooser, q is x, and is asked first.
        self.check({**self.SHEET, ("which", 0, 0, 0, 1): (0, 2)}, [*sheets, *whiches[::-1], ("opened", 0, 2), *shows[::-1]],
                   "wrong", 1,
                   "p", chooser=[1])

    def test_both_for_their_whiches(self):
        lies = {("sheet", 0, 0): [[0, 2, 1, 0]], ("which", 0, 0, 0, 1): None}
        more = {("sheet", 0, 0): [[0, 0, 2, 1]], ("which", 0, 0, 0, 1): "no"}
        for chooser, order in (((), "pq"), ((1, 0), "qp")):
            house = Made([FIRST], ["pqr"], {"p": lies, "q": more}, chooser=chooser).house
            house.turn()
            told = {"p": "silent", "q": "shape"}
            entries = [("which", 0, 0, person, 0, 1, told[person]) for person in order]
            entries += [("struck", person, told[person]) for person in order]
            self.assertEqual(house.entries()[3:], entries + [("taken", 0, 0, (TRUE_ROW,))])
            self.assertEqual((house.struck(), house.openings), ([(person, told[person]) for person in order], 0))

    def test_both_for_their_shows(self):
        lies = {("sheet", 0, 0): [[0, 2, 1, 0]], ("which", 0, 0, 0, 1): [0, 2], ("show", 0, 1): [1, "dee"],
                ("show", 0, 2): [1, "dee"]}
        more = {("sheet", 0, 0): [[0, 2, 0, 1]], ("which", 0, 0, 0, 1): [0, 1], ("which", 0, 0, 0, 2): [],
                ("show", 0, 2): [3, "cy > bo"],
                ("show", 0, 1): None}
        house = Made([FIRST], ["pq"], {"p": lies, "q": more}).house
        # Both say two for ann; they differ at bo, of which p names one ballot and q none.
        house.turn()
        self.assertEqual(house.entries()[2:], [
            ("which", 0, 0, "p", 0, 2, (1,)), ("which", 0, 0, "q", 0, 2, ()), ("opened", 0, 1),
            ("show", 0, 1, "p", (1, "dee")),
            ("show", 0, 1, "q", "silent"), ("struck", "p", "spoiled"), ("struck", "q", "silent"),
            ("taken", 0, 0, ((3, 0, 0, 0),))])
        self.assertEqual(house.openings, 1)

    def test_nobody_is_judged_by_one_who_is_not_good(self):
        # q is wrong about ballot 2, and is struck; p shows it with a salt that is not sealed, and is struck alone for this.
        changes = {"q": {**self.SHEET, ("which", 0, 0, 0, 1): (0, 2)}, "p": {("show", 0, 2): (7, "cy > bo")}}
        made = Made([FIRST], ["pq"], changes)
        made.house.turn()
        self.assertEqual(made.house.struck(), [("p", "seal")])
        self.assertEqual(made.house.entries()[-3:-1], [("struck", "p", "seal"), ("taken", 0, 0, ((0, 2, 1, 0),))])
        self.assertEqual(made.house.taken(0), [0, 0, 1, 2])

    def test_the_first_sub_block_at_which_sheets_differ(self):
        # Two parts are due; the sheets differ at the second one alone.
        made = Made([("ann", "ann bo", "-", "bo")], ["pq"],
                    {"q": {("sheet", 1, 0): ((1, 1), [2, 0]), ("which", 1, 0, 1, 0): [0, 1]}},
                    contest=TICKS)
        made.house.run()
        self.assertEqual(made.house.entries()[3:], [
            ("sheet", 1, 0, "p", ((1, 1), (1, 1))), ("sheet", 1, 0, "q", ((1, 1), (2, 0))),
            ("which", 1, 0, "p", 1, 0, (0,)),
            ("which", 1, 0, "q", 1, 0, (0, 1)), ("opened", 0, 1), ("show", 0, 1, "p", (1, "ann bo")),
            ("show", 0, 1, "q", (1, "ann bo")),
            ("struck", "q", "wrong"), ("taken", 1, 0, ((1, 1), (1, 1))), ("told", "whole", (1,))])

    def test_parts_are_named_by_their_numbers_also_if_others_are_not_due(self):
        # No ballot is without ann, so the part 0 of the question 1 is not due, and the only row is of the part 1.
        made = Made([("ann", "ann bo", "ann")], ["pq"], {"q": {("sheet", 1, 0): ((1, 2),), ("which", 1, 0, 1, 0): [2]}},
                    contest=TICKS)
        made.house.run()
        self.assertEqual(made.log[2:4], [("sheet", 1, 0, "p", (1,)), ("sheet", 1, 0, "q", (1,))])
        self.assertEqual(made.house.entries()[3:], [
            ("sheet", 1, 0, "p", ((2, 1),)), ("sheet", 1, 0, "q", ((1, 2),)), ("which", 1, 0, "p", 1, 0, (0, 2)),
            ("which", 1, 0, "q", 1, 0, (2,)), ("opened", 0, 0), ("show", 0, 0, "p", (0, "ann")),
            ("show", 0, 0, "q", (0, "ann")),
            ("struck", "q", "wrong"), ("taken", 1, 0, ((2, 1),)), ("told", "whole", (1,))])
        self.assertEqual(made.house.taken(0), [0, 0, 2, 1])

    def test_whoever_is_struck_is_not_asked_in_other_bundles(self):
        made = Made([FIRST, FIRST, FIRST], ["q", "pq", "qr"], {"q": {("sheet", 0, 0): None}})
        made.house.turn()
        self.assertEqual(made.house.entries(), [
            ("sheet", 0, 0, "q", "silent"), ("struck", "q", "silent"), ("taken", 0, 0, ((3, 0, 0, 0),)),
            ("sheet", 0, 1, "p", (TRUE_ROW,)),
            ("taken", 0, 1, (TRUE_ROW,)), ("sheet", 0, 2, "r", (TRUE_ROW,)), ("taken", 0, 2, (TRUE_ROW,))])

    def test_what_was_taken_before_stands(self):
        made = Made([("bo", "bo", "bo", "-"), FIRST], ["q", "pq"],
                    {"q": {("sheet", 0, 0): [[0, 2, 1, 1]], ("sheet", 0, 1): None}})
        made.house.turn()
        self.assertEqual((made.house.taken(0), made.house.taken(1)), ([0, 1, 1, 2], [0, 1, 1, 1]))
        made.house.turn()
        # In the question 1, of the ballots for cy, the bundle 0 is due, but nobody is heard there.
        self.assertEqual(made.house.entries()[6:9], [("taken", 1, 0, ((1, 0, 0),)), ("sheet", 1, 1, "p", ((0, 0, 1),)),
                                                     ("taken", 1, 1, ((0, 0, 1),))])

    def test_answers_of_own_functions_are_copied(self):
        answers = {"sheet": [[0, 2, 1, 0]], "which": [0, 2], "show": [2, "cy > bo"]}
        made = Made([FIRST], ["pq"], q=OwnVoice(lambda key, question: answers[key[0]]))
        made.house.turn()
        kept = made.house.entries()
        answers["sheet"][0][0] = 9
        answers["which"].clear()
        answers["show"].append(1)
        self.assertEqual(made.house.entries(), kept)
        self.assertEqual(kept[1], ("sheet", 0, 0, "q", ((0, 2, 1, 0),)))


class Quarrels(unittest.TestCase):
    def test_three_persons(self):
        changes = {"q": {("sheet", 0, 0): [[0, 2, 1, 0]], ("which", 0, 0, 0, 1): [0, 2]},
                   "r": {("sheet", 0, 0): [[1, 1, 1, 0]], ("which", 0, 0, 0, 0): [2]}}
        made = Made([FIRST], ["pqr"], changes)
        made.house.turn()
        show = (2, "cy > bo")
        # The ballot 2 is opened twice, but p is asked for it once.
        self.assertEqual(made.house.entries()[3:], [
            ("which", 0, 0, "p", 0, 1, (0,)), ("which", 0, 0, "q", 0, 1, (0, 2)), ("opened", 0, 2),
            ("show", 0, 2, "p", show),
            ("show", 0, 2, "q", show), ("struck", "q", "wrong"), ("which", 0, 0, "p", 0, 0, ()),
            ("which", 0, 0, "r", 0, 0, (2,)),
            ("opened", 0, 2), ("show", 0, 2, "r", show), ("struck", "r", "wrong"), ("taken", 0, 0, (TRUE_ROW,))])
        self.assertEqual((made.house.openings, made.house.struck()), (2, [("q", "wrong"), ("r", "wrong")]))

    def test_a_which_that_was_kept(self):
        changes = {"q": {("sheet", 0, 0): [[0, 2, 1, 0]], ("which", 0, 0, 0, 1): [0, 2]},
                   "r": {("sheet", 0, 0): [[0, 2, 0, 1]], ("which", 0, 0, 0, 1): [0, 1]}}
        made = Made([FIRST], ["pqr"], changes)
        made.house.turn()
        self.assertEqual(made.house.entries()[8:], [
            ("struck", "q", "wrong"), ("which", 0, 0, "r", 0, 1, (0, 1)), ("opened", 0, 1), ("show", 0, 1, "p", (1, "bo")),
            ("show", 0, 1, "r", (1, "bo")), ("struck", "r", "wrong"), ("taken", 0, 0, (TRUE_ROW,))])
        self.assertEqual(len(made.log), len(set(made.log)))

    def test_a_show_that_was_kept_from_an_earlier_question(self):
        # q is wrong about ballot 0 in the question 0, and r about the same ballot in the question 1.
        changes = {"q": {("sheet", 0, 0): [[1, 1]], ("which", 0, 0, 0, 0): [0]},
                   "r": {("sheet", 1, 0): [[0, 2]], ("which", 1, 0, 1, 0): []}}
        made = Made([("ann", "ann bo")], ["pqr"], changes, contest=TICKS)
        made.house.run()
        self.assertEqual(made.house.entries(), [
            ("sheet", 0, 0, "p", ((0, 2),)), ("sheet", 0, 0, "q", ((1, 1),)), ("sheet", 0, 0, "r", ((0, 2),)),
            ("which", 0, 0, "p", 0, 0, ()), ("which", 0, 0, "q", 0, 0, (0,)), ("opened", 0, 0),
            ("show", 0, 0, "p", (0, "ann")),
            ("show", 0, 0, "q", (0, "ann")), ("struck", "q", "wrong"), ("taken", 0, 0, ((0, 2),)),
            ("sheet", 1, 0, "p", ((1, 1),)), ("sheet", 1, 0, "r", ((0, 2),)), ("which", 1, 0, "p", 1, 0, (0,)),
            ("which", 1, 0, "r", 1, 0, ()), ("opened", 0, 0), ("show", 0, 0, "r", (0, "ann")), ("struck", "r", "wrong"),
            ("taken", 1, 0, ((1, 1),)), ("told", "whole", (1,))])
        self.assertEqual(made.house.openings, 2)

    def test_four_persons(self):
        lies = {("sheet", 0, 0): [[0, 2, 1, 0]], ("which", 0, 0, 0, 1): [0, 2]}
        for chooser, pairs in (((), ["pr", "ps"]), ((1, 1), ["qs", "qr"]), ((2, 1, 0), ["rq", "ps"]),
                               ((3, 0, 2, 1), ["sp", "rq"])):
            made = Made([FIRST], ["pqrs"], {"r": lies, "s": lies}, chooser=chooser)
            made.house.turn()
            entries = made.house.entries()
            self.assertEqual(entries[:4], [("sheet", 0, 0, person,
                                            (TRUE_ROW,) if person in "pq" else ((0, 2, 1, 0),)) for person in "pqrs"])
            self.assertEqual(sorted(made.house.struck()), [("r", "wrong"), ("s", "wrong")])
            self.assertEqual(entries[-1], ("taken", 0, 0, (TRUE_ROW,)))
            asked = [entry[3] for entry in entries if entry[0] == "which"]
            self.assertEqual(asked, unique("".join(pairs)), chooser)
            self.assertEqual(made.house.openings, 2)

    def test_liars_who_agree_outlive_nobody(self):
        # Two who lie alike strike nobody who is true; a quarrel is not settled by numbers.
        lies = {("sheet", 0, 0): [[0, 2, 1, 0]], ("which", 0, 0, 0, 1): [0, 2]}
        made = Made([FIRST], ["qrsp"], {"q": lies, "r": lies, "s": lies})
        made.house.turn()
        self.assertEqual(made.house.struck(), [("q", "wrong"), ("r", "wrong"), ("s", "wrong")])
        self.assertEqual((made.house.taken(0), made.house.openings), ([0, 1, 1, 1], 3))

    def test_liars_who_agree_alone(self):
        lies = {("sheet", 0, 0): [[0, 2, 1, 0]]}
        made = Made([FIRST], ["qr"], {"q": lies, "r": {("sheet", 0, 0): ((0, 2, 1, 0),)}})
        made.house.turn()
        self.assertEqual((made.house.struck(), made.house.taken(0), made.house.openings), ([], [0, 0, 1, 2], 0))


def unique(text):
    return [sign for at, sign in enumerate(text) if sign not in text[:at]]


class Nobody(unittest.TestCase):
    def test_nobody_is_heard(self):
        made = Made([FIRST, FIRST], ["qr", "p"], q=SilentVoice(), r=OwnVoice(lambda key, question: "no"))
        made.house.turn()
        self.assertEqual(made.house.entries()[:5],
                         [("sheet", 0, 0, "q", "silent"), ("struck", "q", "silent"), ("sheet", 0, 0, "r", "shape"),
                                                    ("struck", "r", "shape"), ("taken", 0, 0, ((3, 0, 0, 0),))])
        self.assertEqual(made.house.taken(0), [3, 0, 0, 0])

    def test_each_due_block_goes_to_its_first_sub_block(self):
        made = Made([("ann", "ann bo", "-", "bo", "ann")], ["q"], {"q": {("sheet", 1, 0): None}}, contest=TICKS)
        made.house.run()
        self.assertEqual(made.house.entries()[-4:], [("sheet", 1, 0, "q", "silent"), ("struck", "q", "silent"),
                                                     ("taken", 1, 0, ((2, 0), (3, 0))), ("told", "whole", (1,))])
        self.assertEqual(made.house.taken(0), [2, 0, 3, 0])

    def test_the_first_sub_block_is_that_of_the_least_label(self):
        contest = contest_of(rule_text("ask over 0 1", form="ticks"), names=("ann", "bo"))
        house = Made([("ann", "ann", "-")], ["q"], contest=contest, q=SilentVoice()).house
        house.run()
        # The sub-block of -1 has the marking of bo; behind the question it is the second block.
        self.assertEqual((house.entries()[2], house.taken(0)), (("taken", 0, 0, ((3, 0, 0),)), [0, 3, 0]))
        self.assertEqual(house.course().answers(), [((3, 0, 0),)])

    def test_nobody_anywhere(self):
        house = Made([FIRST, FIRST], ["q", "r"], q=SilentVoice(), r=SilentVoice()).house
        self.assertEqual(house.run(), plain_count(ROUNDS, [(0, 0, 0)] * 6))
        self.assertEqual(house.struck(), [("q", "silent"), ("r", "silent")])


class Due(unittest.TestCase):
    def test_bundles_without_due_parts_are_left_out(self):
        made = Made([["ann"], [], ["bo > cy"], ["cy"]], ["p", "p", "p", "p"])
        made.house.turn()
        self.assertEqual([entry[2] for entry in made.house.entries() if entry[0] == "taken"], [0, 2, 3])
        self.assertEqual([made.house.taken(bundle) for bundle in range(4)],
                         [[0, 0, 0, 1], [0] * 4, [0, 0, 1, 0], [0, 1, 0, 0]])
        # The question 1 is of the ballots for cy.
        made.house.turn()
        self.assertEqual(made.log[3:], [("sheet", 1, 3, "p", (0,))])
        self.assertEqual([entry[2] for entry in made.house.entries() if entry[0] == "taken"], [0, 2, 3, 3])

    def test_the_due_parts_of_each_bundle(self):
        made = Made([["ann", "bo"], ["ann bo", "ann"], ["-"]], ["p", "p", "p"], contest=TICKS)
        made.house.run()
        self.assertEqual(made.log[3:], [("sheet", 1, 0, "p", (0, 1)), ("sheet", 1, 1, "p", (1,)),
                                        ("sheet", 1, 2, "p", (0,))])
        self.assertEqual(made.house.entries()[6:], [
            ("sheet", 1, 0, "p", ((0, 1), (1, 0))), ("taken", 1, 0, ((0, 1), (1, 0))), ("sheet", 1, 1, "p", ((1, 1),)),
            ("taken", 1, 1, ((1, 1),)), ("sheet", 1, 2, "p", ((1, 0),)), ("taken", 1, 2, ((1, 0),)),
            ("told", "whole", (1,))])
        self.assertEqual([made.house.taken(bundle) for bundle in range(3)], [[0, 1, 1, 0], [0, 0, 1, 1], [1, 0, 0, 0]])
        self.assertEqual(made.house.course().answers(), [((2, 3),), ((1, 1), (2, 1))])

    def test_taken_of_blocks_that_are_not_split(self):
        made = Made([FIRST], ["p"])
        made.house.run()
        self.assertEqual(len(made.house.taken(0)), len(made.house.blocks()))
        self.assertEqual(made.house.taken(0), made.house.course().sizes())
        self.assertEqual(sum(made.house.taken(0)), 3)


class Choosing(unittest.TestCase):
    def order(self, sizes, chooser, questions=2):
        made = Made([["ann"] * size for size in sizes], ["p"] * len(sizes), contest=TICKS, chooser=chooser)
        made.house.run()
        taken = [entry[1:3] for entry in made.house.entries() if entry[0] == "taken"]
        return [[bundle for number, bundle in taken if number == question] for question in range(questions)]

    def test_the_first_bundle(self):
        for chooser, first, second in (([], [0, 1, 2], [0, 1, 2]), ([0], [0, 1, 2], [0, 1, 2]), ([1], [1, 2, 0], [1, 2, 0]),
                                       ([1, 2], [1, 2, 0], [2, 0, 1]), ([4, 3, 1], [1, 2, 0], [0, 1, 2]),
                                       ((2, 10 ** 20 + 1), [2, 0, 1], None)):
            found = self.order([1, 1, 1], chooser)
            self.assertEqual(found[0], first)
            if second is None:
                start = (10 ** 20 + 1) % 3
                second = [start, (start + 1) % 3, (start + 2) % 3]
            self.assertEqual(found[1], second)

    def test_among_the_bundles_with_due_parts(self):
        self.assertEqual(self.order([1, 0, 1], [1]), [[2, 0], [2, 0]])
        self.assertEqual(self.order([0, 1, 0, 1, 1], [2, 1]), [[4, 1, 3], [3, 4, 1]])
        self.assertEqual(self.order([0, 2, 0], [2, 1]), [[1], [1]])

    def test_one_thing_takes_no_number(self):
        # One bundle; x is chosen of two, y of one.
        lies = {("sheet", 0, 0): [[0, 2, 1, 0]], ("which", 0, 0, 0, 1): [0, 2]}
        for chooser, first in (([], "p"), ([0, 1], "p"), ([1, 0], "q"), ([3], "q"), ([2, 1, 1], "p")):
            made = Made([FIRST], ["pq"], {"q": lies}, chooser=chooser)
            made.house.turn()
            self.assertEqual([entry[3] for entry in made.house.entries() if entry[0] == "which"][0], first)

    def test_x_and_y(self):
        changes = {"q": {("sheet", 0, 0): [[0, 2, 1, 0]], ("which", 0, 0, 0, 1): None},
                   "r": {("sheet", 0, 0): [[0, 2, 0, 1]], ("which", 0, 0, 0, 1): None, ("which", 0, 0, 0, 2): None}}
        # For each chooser: who is asked, and for which sub-block. What was said is kept.
        for chooser, asked in (([], "p1 q1 r1"), ([0, 1], "p1 r1 q1"), ([2, 1], "r2 q2 p1 q1"), ([1, 0], "q1 p1 r1"),
                               ([1, 1], "q2 r2 q1 p1"), ([2, 0, 1], "r1 p1 q1"), ([2, 0, 0], "r1 p1 q1"),
                               ([5, 6, 7], "r1 p1 q1")):
            made = Made([FIRST], ["pqr"], changes, chooser=chooser)
            made.house.turn()
            found = [f"{entry[3]}{entry[5]}" for entry in made.house.entries() if entry[0] == "which"]
            self.assertEqual(found, asked.split(), chooser)
            self.assertEqual(sorted(made.house.struck()), [("q", "silent"), ("r", "silent")])

    def test_round_and_round(self):
        # Three bundles and three liars beside p: numbers for the first bundle, then for x and y, in turn.
        lies = {("sheet", 0, bundle): [[0, 2, 1, 0]] for bundle in range(3)}
        lies.update({("which", 0, bundle, 0, 1): None for bundle in range(3)})
        made = Made([FIRST] * 3, ["pqt", "prt", "pst"], {"q": lies, "r": lies, "s": lies}, chooser=[1, 2])
        made.house.turn()
        entries = made.house.entries()
        self.assertEqual([entry[2] for entry in entries if entry[0] == "taken"], [1, 2, 0])
        # Bundle 1: x is 2 modulo 3, t, and y is r alone. Bundle 2: x is 1 modulo 3, s, and y is 2 modulo 2 of p and t.
        # Bundle 0: x is 1 modulo 3, q, and y is 2 modulo 2 of p and t.
        asked = [(entry[2], entry[3]) for entry in entries if entry[0] == "which"]
        self.assertEqual(asked, [(1, "t"), (1, "r"), (2, "s"), (2, "p"), (0, "q"), (0, "p")])


class Clashes(unittest.TestCase):
    CHANGES = {("sheet", 1, 1): [[1, 0, 0]], ("which", 1, 1, 0, 0): [1], ("show", 1, 1): [9, "ann"]}

    def test_attributes(self):
        clash = Clash(1, 2, "a", "b")
        self.assertEqual((clash.bundle, clash.ballot, clash.first, clash.second), (1, 2, "a", "b"))
        self.assertTrue(clash == Clash(second="b", first="a", ballot=2, bundle=1))
        for other in (Clash(0, 2, "a", "b"), Clash(1, 0, "a", "b"), Clash(1, 2, "b", "b"), Clash(1, 2, "a", "a"), None, 1,
                      (1, 2, "a", "b")):
            self.assertFalse(clash == other)
            self.assertTrue(clash != other)

    def test_a_clash(self):
        # In the question 1, r is silent over the bundle 0; then p and q show two unlike ballots over the bundle 1.
        made = Made([("cy > bo", "ann"), ("bo", "cy > bo", "ann", "bo")], ["rp", "pq"],
                    {"q": self.CHANGES, "r": {("sheet", 1, 0): None}}, seal=FlatSeal())
        house = made.house
        house.turn()
        blocks, taken, course, first = house.blocks(), [house.taken(0), house.taken(1)], house.course(), house.entries()
        self.assertEqual(house.question.number, 1)
        self.assertIsNone(house.turn())
        clash = Clash(1, 1, "placeb/1/101/cy > bo", "placeb/1/9/ann")
        self.assertEqual((house.ended, house.result, house.question), (True, clash, None))
        self.assertEqual(house.entries(), first + [
            ("sheet", 1, 0, "r", "silent"), ("struck", "r", "silent"), ("sheet", 1, 0, "p", ((0, 0, 1),)),
            ("taken", 1, 0, ((0, 0, 1),)),
            ("sheet", 1, 1, "p", ((0, 0, 1),)), ("sheet", 1, 1, "q", ((1, 0, 0),)), ("which", 1, 1, "p", 0, 0, ()),
            ("which", 1, 1, "q", 0, 0, (1,)), ("opened", 1, 1), ("show", 1, 1, "p", (101, "cy > bo")),
            ("show", 1, 1, "q", (9, "ann")),
            ("clash", 1, 1)])
        self.assertEqual((house.struck(), house.openings), ([("r", "silent")], 1))
        self.assertEqual((house.blocks(), [house.taken(0), house.taken(1)]), (blocks, taken))
        self.assertEqual((house.course(), house.course().question), (course, course.question))
        self.assertEqual(house.course().blocks(), course.blocks())
        self.assertEqual(repr(house), "House(2 turns, ended)")
        kept = state(house)
        self.assertEqual(caught(Ended, house.turn), ())
        self.assertEqual(house.run(), clash)
        self.assertEqual(state(house), kept)
        self.assertEqual(state(house.twin()), kept)

    def test_unlike_in_salt_or_text(self):
        lies = {("sheet", 0, 0): [[0, 2, 1, 0]], ("which", 0, 0, 0, 1): [0, 2]}
        for shown, result in (((3, "cy > bo"), "placea/2/3/cy > bo"), ([2, "cy"], "placea/2/2/cy"),
                              ((0, "-"), "placea/2/0/-")):
            for chooser in ((), (1,)):
                house = Made([FIRST], ["pq"], {"q": {**lies, ("show", 0, 2): shown}}, seal=FlatSeal(),
                             chooser=chooser).house
                texts = ("placea/2/2/cy > bo", result)
                self.assertEqual(house.run(), Clash(0, 2, *texts[::-1 if chooser else 1]))
                self.assertEqual((house.struck(), house.openings, house.taken(0)), ([], 1, [3]))
                self.assertEqual(house.entries()[-1], ("clash", 0, 2))
        house = Made([FIRST], ["pq"], {"q": {**lies, ("show", 0, 2): [2, "cy > bo"]}}, seal=FlatSeal()).house
        house.turn()
        self.assertEqual(house.struck(), [("q", "wrong")])

    def test_spoiled_texts_are_no_clash(self):
        lies = {("sheet", 0, 0): [[0, 2, 1, 0]], ("which", 0, 0, 0, 1): [0, 2], ("show", 0, 2): (2, "dee")}
        house = Made([FIRST], ["pq"], {"q": lies}, seal=FlatSeal()).house
        house.turn()
        self.assertEqual(house.struck(), [("q", "spoiled")])

    def test_nothing_comes_behind_a_clash(self):
        lies = {("sheet", 0, 0): [[0, 2, 1, 0]], ("which", 0, 0, 0, 1): [0, 2], ("show", 0, 2): (3, "cy")}
        made = Made([FIRST, FIRST], ["pqr", "p"], {"q": lies, "r": {("sheet", 0, 0): ((1, 1, 1, 0),)}}, seal=FlatSeal())
        made.house.turn()
        self.assertEqual(made.house.entries()[-1], ("clash", 0, 2))
        self.assertEqual((made.log[-1], made.house.ended), (("show", 0, 2, "q"), True))

    def test_the_sealed_texts_have_one_seal(self):
        seal = MadeSeal(3)
        hands = hands_of(ROUNDS, FIRST)
        code = seal.of(sealed_text(ROUNDS, hands[0][2]))
        salt = next(salt for salt in range(3, 99) if seal.of(f"placea/2/{salt}/ann") == code)
        lies = {("sheet", 0, 0): [[0, 2, 1, 0]], ("which", 0, 0, 0, 1): [0, 2], ("show", 0, 2): (salt, "ann")}
        clash = Made([FIRST], ["pq"], {"q": lies}, seal=seal).house.run()
        self.assertEqual(clash, Clash(0, 2, "placea/2/2/cy > bo", f"placea/2/{salt}/ann"))
        self.assertEqual(seal.of(clash.first), seal.of(clash.second))


class Ending(unittest.TestCase):
    def test_ended(self):
        house = Made([FIRST], ["p"]).house
        count = house.run()
        self.assertEqual(count, plain_count(ROUNDS, [ROUNDS.read(text) for text in FIRST]))
        kept = state(house)
        with self.assertRaises(Ended) as error:
            house.turn()
        self.assertIsInstance(error.exception, TooLate)
        self.assertEqual(house.run(), count)
        self.assertEqual(state(house), kept)
        self.assertEqual((house.question, house.ended, house.result), (None, True, count))
        self.assertEqual(house.course().so_far(), count)

    def test_before_the_end(self):
        house = Made([FIRST], ["p"]).house
        house.turn()
        self.assertEqual((house.ended, house.result, house.question.number), (False, None, 1))
        self.assertEqual(house.question, house.course().question)
        self.assertEqual(house.course().so_far().end, "open")

    def test_told_is_the_last_entry(self):
        contest = contest_of(shelf_text("transfer", 2))
        house = Made([["ann > bo"] * 4 + ["bo", "cy"]], ["p"], contest=contest).house
        house.run()
        self.assertEqual(house.entries()[-1], ("told", "whole", (0, 1)))

    def test_an_end_with_digits(self):
        large = ("let n be 100000", "times 6", "let n be n * n", "end")
        contest = contest_of(rule_text("ask mark 0", "seat 1", *large, "seat 2", seats=2))
        house = Made([FIRST], ["p"], contest=contest).house
        self.assertEqual(house.run(), Count((("seat", 1),), (1,), "digits"))
        self.assertEqual(house.entries()[-1], ("told", "digits", (1,)))

    def test_what_is_told_is_new(self):
        house = Made([FIRST], ["pq"], {"q": {("sheet", 0, 0): None}}).house
        house.turn()
        kept = state(house)
        for told in (house.struck(), house.taken(0), house.blocks(), house.entries()):
            self.assertIs(type(told), list)
            told.clear()
        course = house.course()
        course.take(((0, 0, 1),))
        self.assertEqual(state(house), kept)


class Twins(unittest.TestCase):
    def made(self, **more):
        changes = {"q": {("sheet", 0, 0): [[0, 0, 2, 1]], ("which", 0, 0, 0, 1): ()},
                   "r": {("sheet", 1, 0): [[1, 0, 0]], ("which", 1, 0, 0, 0): [2]}}
        return Made([FIRST, ("cy", "bo"), ("ann",)], ["pqr", "q", "pr"], changes, **more)

    def test_twins_that_are_led_apart(self):
        made = self.made(chooser=[1, 0, 2, 2])
        whole = self.made(chooser=[1, 0, 2, 2]).house
        whole.run()
        house = made.house
        states = [state(house)]
        twins = [house.twin()]
        while not house.ended:
            house.turn()
            states.append(state(house))
            twins.append(house.twin())
        self.assertEqual(state(house), state(whole))
        self.assertEqual(len(states), 3)
        for twin, kept in zip(twins, states):
            self.assertEqual(state(twin), kept)
            other = twin.twin()
            twin.run()
            self.assertEqual(state(twin), state(whole))
            self.assertEqual(state(other), kept)
        self.assertEqual(state(house), state(whole))

    def test_answers_are_kept_in_twins(self):
        made = Made([("ann", "ann bo")], ["pqr"], {"q": {("sheet", 0, 0): [[1, 1]], ("which", 0, 0, 0, 0): [0]},
                                                   "r": {("sheet", 1, 0): [[0, 2]],
                                                         ("which", 1, 0, 1, 0): []}}, contest=TICKS)
        made.house.turn()
        asked = list(made.log)
        made.house.twin().run()
        self.assertNotIn(("show", 0, 0, "p"), made.log[len(asked):])
        self.assertIn(("show", 0, 0, "r"), made.log[len(asked):])

    def test_attributes(self):
        house = self.made().house
        self.assertEqual((house.twin().contest, house.twin().staff), (house.contest, house.staff))


class AgainstTheReference(unittest.TestCase):
    SEALS = (WholeSeal(), MadeSeal(10 ** 9), MadeSeal(3), FlatSeal(), OwnSeal(lambda text: text[::-1]))

    def contest(self, word, seats, many):
        return contest_of(shelf_text(word, seats), names=("ann", "bo", "cy", "dee")[:many])

    def follow(self, setting):
        """Runs a house, and looks at it behind each turn."""
        log = []
        voices = {person: Logged(person, voice, log) for person, voice in setting.voices.items()}
        house = House(setting.contest, bundles_of(setting.contest, setting.hands, setting.seal), Staff(*setting.lists),
                      voices,
                      seal=setting.seal, chooser=setting.chooser)
        while not house.ended:
            house.turn()
            self.check(setting, house)
        self.check_asked(house, log)
        return house

    def check(self, setting, house):
        every = [house.taken(bundle) for bundle in range(len(setting.hands))]
        totals = [sum(sizes) for sizes in zip(*every)] if every else [0] * len(house.blocks())
        self.assertEqual(totals, house.course().sizes())
        for bundle, sizes in enumerate(every):
            self.assertEqual((sum(sizes), min(sizes) >= 0), (len(setting.hands[bundle]), True))
            if set(setting.lists[bundle]) - set(setting.liars):
                self.assertEqual(sizes, house.course().sizes_of([paper[3] for paper in setting.hands[bundle]]))
        self.assertLessEqual({person for person, _ in house.struck()}, set(setting.liars))
        clash = isinstance(house.result, Clash)
        self.assertLessEqual(house.openings, len(house.struck()) + clash)

    def check_asked(self, house, log):
        self.assertEqual(len({item[:4] if item[0] == "sheet" else item for item in log}), len(log))
        entries = house.entries()
        asked = [entry for entry in entries if entry[0] in ("sheet", "which", "show")]
        self.assertEqual([item[:4] for item in log], [entry[:4] for entry in asked])
        struck = []
        for entry in entries:
            if entry[0] == "struck":
                struck.append(entry[1])
            if entry[0] in ("sheet", "which", "show"):
                self.assertNotIn(entry[3], struck)

    def test_houses_that_are_made(self):
        words, ends = [], []
        for seed in range(500):
            setting = Setting(seed, sorted(SHELF), self.contest, self.SEALS)
            house = self.follow(setting)
            plain = PlainHouse(setting.contest, bundles_of(setting.contest, setting.hands, setting.seal), setting.lists,
                               setting.voices,
                               setting.seal, setting.chooser)
            self.assertEqual(house.entries(), plain.minutes)
            self.assertEqual((house.struck(), house.openings, repr(house)),
                             (plain.struck, plain.openings, f"House({plain.turns} turns, ended)"))
            self.assertEqual(house.result, plain.course.so_far() if plain.clash is None else Clash(*plain.clash))
            self.assertEqual(house.course(), plain.course)
            words.extend(reason for _, reason in house.struck())
            ends.append(plain.clash is None)
        self.assertLessEqual({"silent", "shape", "below", "sum", "rows", "seal", "wrong"}, set(words))
        self.assertGreater(ends.count(False), 10)

    def test_there_is_no_clash_under_a_good_seal(self):
        for seed in range(1000, 1200):
            setting = Setting(seed, sorted(SHELF), self.contest, (WholeSeal(), OwnSeal(lambda text: text + "!")))
            self.assertIsInstance(self.follow(setting).result, Count)
