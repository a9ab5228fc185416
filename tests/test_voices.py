"""The four kinds of voices and their three questions."""

import unittest

from helpers import contest_of, hands_of, rule_text, shelf_text
from soleheld import voices
from soleheld.courses import Course
from soleheld.voices import ChangedVoice, OwnVoice, SilentVoice, TrueVoice, Voice

CONTEST = contest_of(shelf_text("rounds"))
HANDS = hands_of(CONTEST, ["ann > bo", "bo", "cy > bo", "bo > ann", "-"], ["cy", "cy"], [])
FIRST = Course(CONTEST, 7).question


def later_question():
    """A question with two parts: over the markings of [- bo] and of [ann, ann bo] of ticks."""
    course = Course(contest_of(rule_text("ask mark 0", "ask mark 1", form="ticks"), names=("ann", "bo")), 4)
    course.take(((2, 2),))
    return course.question


class Kinds(unittest.TestCase):
    def test_bases(self):
        for kind in (TrueVoice, SilentVoice, ChangedVoice, OwnVoice):
            self.assertEqual(kind.__bases__, (Voice,))
            self.assertEqual(kind.__module__, voices.__name__)
            for method in ("sheet", "which", "show"):
                self.assertIn(method, vars(kind))


class TrueVoices(unittest.TestCase):
    def test_sheet(self):
        voice = TrueVoice(CONTEST, HANDS)
        # The sub-blocks are those of -1, ann, bo and cy.
        self.assertEqual(voice.sheet(FIRST, 0, (0,)), ((1, 1, 2, 1),))
        self.assertEqual(voice.sheet(FIRST, 1, (0,)), ((0, 0, 0, 2),))
        self.assertEqual(voice.sheet(FIRST, 2, (0,)), ((0, 0, 0, 0),))
        self.assertEqual(voice.sheet(due=(), bundle=0, question=FIRST), ())
        self.assertEqual([type(value) for value in (voice.sheet(FIRST, 0, (0,)), voice.sheet(FIRST, 0, (0,))[0])],
                         [tuple, tuple])

    def test_sheet_of_due_parts_alone(self):
        question = later_question()
        contest = contest_of(rule_text(form="ticks"), names=("ann", "bo"))
        voice = TrueVoice(contest, hands_of(contest, ["ann", "ann bo", "-", "ann"]))
        self.assertEqual(voice.sheet(question, 0, (0, 1)), ((1, 0), (2, 1)))
        self.assertEqual(voice.sheet(question, 0, (0,)), ((1, 0),))
        self.assertEqual(voice.sheet(question, 0, (1,)), ((2, 1),))
        self.assertEqual(voice.sheet(question, 0, [1]), ((2, 1),))

    def test_which(self):
        voice = TrueVoice(CONTEST, HANDS)
        self.assertEqual([voice.which(FIRST, 0, 0, sub) for sub in range(4)], [(4,), (0,), (1, 3), (2,)])
        self.assertEqual([voice.which(FIRST, 1, 0, sub) for sub in range(4)], [(), (), (), (0, 1)])
        self.assertEqual(voice.which(sub=2, part=0, bundle=0, question=FIRST), (1, 3))
        self.assertIs(type(voice.which(FIRST, 0, 0, 0)), tuple)

    def test_which_of_a_later_part(self):
        contest = contest_of(rule_text(form="ticks"), names=("ann", "bo"))
        voice = TrueVoice(contest, hands_of(contest, ["ann", "ann bo", "-", "ann"]))
        self.assertEqual([voice.which(later_question(), 0, part, sub) for part in (0, 1) for sub in (0, 1)],
                         [(2,), (), (0, 3), (1,)])

    def test_show(self):
        voice = TrueVoice(CONTEST, HANDS)
        self.assertEqual([voice.show(0, ballot) for ballot in range(5)],
                         [(0, "ann > bo"), (1, "bo"), (2, "cy > bo"), (3, "bo > ann"), (4, "-")])
        self.assertEqual(voice.show(ballot=1, bundle=1), (101, "cy"))
        self.assertIs(type(voice.show(0, 0)), tuple)

    def test_no_papers_at_all(self):
        self.assertEqual(TrueVoice(CONTEST, [[]]).sheet(FIRST, 0, (0,)), ((0, 0, 0, 0),))
        self.assertEqual(TrueVoice(CONTEST, [[]]).which(FIRST, 0, 0, 1), ())

    def test_hands_that_are_changed_afterwards(self):
        hands = [list(papers) for papers in HANDS]
        voice = TrueVoice(contest=CONTEST, hands=hands)
        hands[0].clear()
        hands.pop()
        self.assertEqual(voice.sheet(FIRST, 0, (0,)), ((1, 1, 2, 1),))
        self.assertEqual(voice.which(FIRST, 0, 0, 2), (1, 3))
        self.assertEqual(voice.show(0, 2), (2, "cy > bo"))
        self.assertEqual(hands, [[], HANDS[1]])


class SilentVoices(unittest.TestCase):
    def test_nothing(self):
        voice = SilentVoice()
        self.assertIsNone(voice.sheet(FIRST, 0, (0,)))
        self.assertIsNone(voice.sheet(due=(), bundle=0, question=FIRST))
        self.assertIsNone(voice.which(FIRST, 0, 0, 1))
        self.assertIsNone(voice.which(sub=0, part=0, bundle=0, question=FIRST))
        self.assertIsNone(voice.show(0, 1))
        self.assertIsNone(voice.show(ballot=0, bundle=1))


class ChangedVoices(unittest.TestCase):
    CHANGES = {("show", 0, 1): None, ("sheet", 0, 1): [[2, 0, 0, 0]], ("which", 0, 0, 0, 2): [9, (1, [2])],
               ("sheet", 1, 0): "no",
               ("show", 1, 0): (7, "bo")}

    def test_what_stands_in_the_changes(self):
        voice = ChangedVoice(TrueVoice(CONTEST, HANDS), self.CHANGES)
        self.assertEqual(voice.sheet(FIRST, 1, (0,)), [[2, 0, 0, 0]])
        self.assertEqual(voice.sheet(due=(), bundle=1, question=FIRST), [[2, 0, 0, 0]])
        self.assertEqual(voice.which(FIRST, 0, 0, 2), [9, (1, [2])])
        self.assertEqual(voice.which(sub=2, part=0, bundle=0, question=FIRST), [9, (1, [2])])
        self.assertIsNone(voice.show(0, 1))
        self.assertEqual(voice.show(ballot=0, bundle=1), (7, "bo"))

    def test_all_else(self):
        base = TrueVoice(CONTEST, HANDS)
        voice = ChangedVoice(base=base, changes=self.CHANGES)
        self.assertEqual(voice.sheet(FIRST, 0, (0,)), base.sheet(FIRST, 0, (0,)))
        for bundle, sub in ((0, 0), (0, 1), (0, 3), (1, 2)):
            self.assertEqual(voice.which(FIRST, bundle, 0, sub), base.which(FIRST, bundle, 0, sub))
        for bundle, ballot in ((0, 0), (0, 2), (1, 1)):
            self.assertEqual(voice.show(bundle, ballot), base.show(bundle, ballot))

    def test_the_number_of_the_question(self):
        question = later_question()
        contest = contest_of(rule_text(form="ticks"), names=("ann", "bo"))
        base = TrueVoice(contest, hands_of(contest, ["ann", "-"]))
        self.assertEqual(question.number, 1)
        voice = ChangedVoice(base, {("sheet", 1, 0): "one", ("which", 1, 0, 1, 0): "two"})
        self.assertEqual((voice.sheet(question, 0, (0,)), voice.which(question, 0, 1, 0)), ("one", "two"))
        voice = ChangedVoice(base, {("sheet", 0, 0): "one", ("which", 0, 0, 1, 0): "two"})
        self.assertEqual((voice.sheet(question, 0, (0,)), voice.which(question, 0, 1, 0)), (((1, 0),), (0,)))

    def test_other_bases(self):
        voice = ChangedVoice(ChangedVoice(SilentVoice(), {("show", 0, 0): 1, ("show", 0, 1): 2}), {("show", 0, 0): 3})
        self.assertEqual([voice.show(0, ballot) for ballot in range(3)], [3, 2, None])
        voice = ChangedVoice(OwnVoice(lambda key, question: key), {("show", 0, 0): 3})
        self.assertEqual(voice.show(0, 1), ("show", 0, 1))

    def test_changes_that_are_changed_afterwards(self):
        row = [2, 0]
        answer = [row, (row, 5)]
        changes = {("show", 0, 0): answer}
        voice = ChangedVoice(SilentVoice(), changes)
        row.append(9)
        answer.append(8)
        changes[("show", 0, 1)] = 4
        changes[("show", 0, 0)] = 4
        self.assertEqual(voice.show(0, 0), [[2, 0], ([2, 0], 5)])
        self.assertIsNone(voice.show(0, 1))

    def test_answers_are_new(self):
        voice = ChangedVoice(SilentVoice(), {("show", 0, 0): [[1]], ("sheet", 0, 0): [[2]], ("which", 0, 0, 0, 0): [[3]]})
        for ask in (lambda: voice.show(0, 0), lambda: voice.sheet(FIRST, 0, ()), lambda: voice.which(FIRST, 0, 0, 0)):
            first = ask()
            kept = [list(first[0])]
            first[0].append(7)
            first.append(9)
            self.assertEqual(ask(), kept)

    def test_changes_stay(self):
        changes = {("show", 0, 0): [1], ("sheet", 0, 0): (2,)}
        ChangedVoice(SilentVoice(), changes).show(0, 0).append(2)
        self.assertEqual(list(changes.items()), [(("show", 0, 0), [1]), (("sheet", 0, 0), (2,))])


class OwnVoices(unittest.TestCase):
    def test_key_and_question(self):
        asked = []

        def function(key, question):
            asked.append((key, question))
            return len(asked)

        voice = OwnVoice(function=function)
        question = later_question()
        self.assertEqual(voice.sheet(question, 3, (0, 1)), 1)
        self.assertEqual(voice.which(FIRST, 2, 0, 3), 2)
        self.assertEqual(voice.show(4, 5), 3)
        self.assertEqual(voice.sheet(due=(), bundle=0, question=FIRST), 4)
        self.assertEqual(voice.which(sub=1, part=0, bundle=2, question=question), 5)
        self.assertEqual(voice.show(ballot=6, bundle=7), 6)
        self.assertEqual(asked, [(("sheet", 1, 3), question), (("which", 0, 2, 0, 3), FIRST), (("show", 4, 5), None),
                                 (("sheet", 0, 0), FIRST), (("which", 1, 2, 0, 1), question), (("show", 7, 6), None)])

    def test_any_answers(self):
        for value in (None, True, 3, "no", [1, [2]], (CONTEST,)):
            voice = OwnVoice(lambda key, question: value)
            self.assertEqual(voice.show(0, 0), value)
            self.assertEqual(voice.sheet(FIRST, 0, (0,)), value)
            self.assertEqual(voice.which(FIRST, 0, 0, 0), value)
