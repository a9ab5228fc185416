"""Courses: blocks, questions, answers, and counts that are led by sizes."""

import random
import unittest

from helpers import SHELF, caught, contest_of, roll_of, rule_text, shelf_text
from reference import Maker
from soleheld.contests import Contest
from soleheld.counts import Count, plain_count
from soleheld.courses import Course, lead
from soleheld.errors import BadSizes, CountError, Ended, InvalidNumber, InvalidRoll, TooLate, TooMany
from soleheld.forms import Lists, One, Points, Ranks, Ticks
from soleheld.questions import Question
from soleheld.worths import worth

ONE, HALF = (1, 1), (1, 2)
PAIR = ("ann", "bo")
TWO_ASKS = ("ask mark 0", "tell 1", "ask mark 1", "tell 2", "seat 1")


def ticks(*body, votes=5, names=PAIR, **more):
    """A course over ticks; with two candidates the markings are -, bo, ann, ann bo."""
    return Course(contest_of(rule_text(*body, form="ticks", **more), names=names), votes)


def state(course):
    """All that a course tells, in lists of its own."""
    return (course.question, course.ended, list(course.blocks()), list(course.sizes()), list(course.answers()),
            course.so_far())


def random_answer(course, chance):
    """An answer with sizes that add up."""
    found = []
    blocks = {block[0]: size for block, size in zip(course.blocks(), course.sizes())}
    for markings, _, subs in course.question.parts:
        row = [0] * len(subs)
        for _ in range(blocks[markings]):
            row[chance.randrange(len(subs))] += 1
        found.append(tuple(row))
    return tuple(found)


class Making(unittest.TestCase):
    def test_votes(self):
        contest = contest_of(shelf_text("rounds"))
        for votes in (0, 1, 40):
            course = Course(contest, votes)
            self.assertEqual((course.contest, course.votes), (contest, votes))
            self.assertEqual(course.sizes(), [votes])
        self.assertEqual(Course(votes=3, contest=contest).votes, 3)

    def test_wrong_votes(self):
        contest = contest_of(shelf_text("rounds"))
        for value in (41, -1, True, False, None, "1", "", (), (1,), [3], 10 ** 30, contest):
            with self.assertRaises(InvalidNumber) as error:
                Course(contest, value)
            self.assertEqual(error.exception.value, value)
            self.assertIs(type(error.exception.value), type(value))

    def test_a_count_without_questions(self):
        for body, count in ((("seat 1", "tell 2"), Count((("seat", 1), ("tell", (2, 1))), (1,), "whole")),
                            ((), Count((), (), "whole"))):
            course = ticks(*body)
            self.assertEqual(state(course), (None, True, [((0, 1, 2, 3), -2, ONE)], [5], [], count))
            self.assertEqual(caught(Ended, course.take, ()), ())

    def test_the_first_question(self):
        course = Course(contest_of(shelf_text("rounds")), 5)
        self.assertFalse(course.ended)
        question = course.question
        self.assertEqual(question.number, 0)
        (markings, labels, subs), = question.parts
        self.assertEqual((markings, labels), (tuple(range(16)), (-1, 0, 1, 2)))
        self.assertEqual(subs, ((0,), (11, 12, 13, 14, 15), (3, 4, 6, 9, 10), (1, 2, 5, 7, 8)))
        self.assertEqual(course.blocks(), [(tuple(range(16)), -2, ONE)])


class Blocks(unittest.TestCase):
    def test_two_questions(self):
        course = ticks(*TWO_ASKS)
        self.assertEqual(course.question, Question(0, [((0, 1, 2, 3), (0, 1), ((0, 1), (2, 3)))]))
        self.assertIsNone(course.take(((3, 2),)))
        # The labels are those ahead of the second ask.
        self.assertEqual(course.blocks(), [((0, 1), 0, ONE), ((2, 3), 1, ONE)])
        self.assertEqual(course.sizes(), [3, 2])
        self.assertEqual(course.question, Question(1, [((0, 1), (0, 1), ((0,), (1,))), ((2, 3), (0, 1), ((2,), (3,)))]))
        course.take(((1, 2), (2, 0)))
        self.assertEqual(course.blocks(), [((0,), 0, ONE), ((1,), 1, ONE), ((2,), 0, ONE), ((3,), 1, ONE)])
        self.assertEqual((course.sizes(), course.question, course.ended), ([1, 2, 2, 0], None, True))

    def test_blocks_stand_in_the_order_of_their_least_markings(self):
        course = ticks("ask over 0 1")
        self.assertEqual(course.question.parts, (((0, 1, 2, 3), (-1, 0, 1), ((1,), (0, 3), (2,))),))
        course.take([[1, 3, 1]])
        self.assertEqual(course.blocks(), [((0, 3), 0, ONE), ((1,), -1, ONE), ((2,), 1, ONE)])
        self.assertEqual(course.sizes(), [3, 1, 1])

    def test_parts_stand_in_the_order_of_the_blocks(self):
        course = ticks("ask over 0 1", "ask mark 0", names=("ann", "bo", "cy"))
        course.take(((1, 2, 2),))
        # Markings: -, cy, bo, bo cy, ann, ann cy, ann bo, ann bo cy.
        self.assertEqual(course.blocks(), [((0, 1, 6, 7), 0, ONE), ((2, 3), -1, ONE), ((4, 5), 1, ONE)])
        self.assertEqual(course.question.parts, (((0, 1, 6, 7), (0, 1), ((0, 1), (6, 7))),))
        course.take([(2, 0)])
        self.assertEqual(course.blocks(), [((0, 1), 0, ONE), ((2, 3), 0, ONE), ((4, 5), 1, ONE), ((6, 7), 1, ONE)])
        self.assertEqual(course.sizes(), [2, 1, 2, 0])

    def test_labels_of_blocks_that_are_not_split_change_behind_the_answer(self):
        course = Course(contest_of(rule_text("ask mark 0", "ask mark 1", form="one")), 4)
        course.take(((3, 1),))
        self.assertEqual(course.question.parts, (((0, 1, 2), (0, 1), ((0, 1), (2,))),))
        self.assertEqual(course.blocks(), [((0, 1, 2), 0, ONE), ((3,), 1, ONE)])
        course.take(((1, 2),))
        self.assertEqual(course.blocks(), [((0, 1), 0, ONE), ((2,), 1, ONE), ((3,), 0, ONE)])
        self.assertEqual(course.sizes(), [1, 2, 1])

    def test_an_ask_that_splits_nothing_is_no_question(self):
        course = ticks("ask mark 7", "tell 1", "ask mark 0", "tell 2", "ask mark 0 from 1", "ask mark 7", "tell 3")
        self.assertEqual(course.question.number, 0)
        self.assertEqual(course.blocks(), [((0, 1, 2, 3), 0, ONE)])
        self.assertEqual(course.so_far().history, (("tell", ONE),))
        course.take(((0, 5),))
        self.assertTrue(course.ended)
        self.assertEqual(course.blocks(), [((0, 1), 0, ONE), ((2, 3), 0, ONE)])
        self.assertEqual(len(course.so_far().history), 3)

    def test_blocks_are_never_joined(self):
        course = ticks("ask mark 0", "ask mark 7", "ask mark 1 where 0")
        course.take(((2, 3),))
        self.assertEqual(course.blocks(), [((0, 1), 0, ONE), ((2, 3), 0, ONE)])
        self.assertEqual(len(course.question.parts), 2)

    def test_where(self):
        # For each place: the parts of the question, and the blocks behind it or at the end.
        for where, parts, blocks in (
                ("1", (((2, 3), (0, 1), ((2,), (3,))),), [((0, 1), 0, ONE), ((2,), 0, ONE), ((3,), 1, ONE)]),
                ("0", (((0, 1), (0, 1), ((0,), (1,))),), [((0,), 0, ONE), ((1,), 1, ONE), ((2, 3), 1, ONE)]),
                ("2 / 2", (((2, 3), (0, 1), ((2,), (3,))),), [((0, 1), 0, ONE), ((2,), 0, ONE), ((3,), 1, ONE)]),
                ("1 / 2", None, [((0, 1), 0, ONE), ((2, 3), 1, ONE)]),
                ("0 - 2", None, [((0, 1), 0, ONE), ((2, 3), 1, ONE)]),
                ("9", None, [((0, 1), 0, ONE), ((2, 3), 1, ONE)])):
            course = ticks("ask mark 0", f"ask mark 1 where {where}", votes=4)
            course.take(((2, 2),))
            self.assertEqual(None if course.ended else course.question.parts, parts, where)
            if parts is not None:
                course.take(((1, 1),))
            self.assertEqual(course.blocks(), blocks, where)

    def test_where_hits_all(self):
        course = ticks("ask mark 1 where 0 - 2")
        self.assertEqual(course.question.parts, (((0, 1, 2, 3), (0, 1), ((0, 2), (1, 3))),))

    def test_where_changes_a_label_without_a_split(self):
        course = ticks("ask mark 0", "ask over 0 7 where 1", "ask mark 1 where 1")
        course.take(((1, 4),))
        self.assertEqual(course.blocks(), [((0, 1), 0, ONE), ((2, 3), 1, ONE)])
        course = ticks("ask mark 0", "ask over 7 0 where 1", "ask mark 1 where 0 - 1")
        course.take(((1, 4),))
        self.assertEqual(course.blocks(), [((0, 1), 0, ONE), ((2, 3), -1, ONE)])
        self.assertEqual(course.question.parts, (((2, 3), (0, 1), ((2,), (3,))),))

    def test_blocks_without_ballots_are_split_too(self):
        course = ticks(*TWO_ASKS, votes=0)
        course.take(((0, 0),))
        self.assertEqual(len(course.question.parts), 2)
        course.take(((0, 0), (0, 0)))
        self.assertEqual((course.sizes(), course.ended), ([0] * 4, True))

    def test_weigh(self):
        course = ticks("ask mark 0", "weigh 1 by 1 / 2", "sum n", "ask mark 1", "weigh 1 by 1 / 3", "tally score", "sum n")
        self.assertEqual(course.blocks(), [((0, 1, 2, 3), -2, ONE)])
        course.take(((2, 3),))
        self.assertEqual(course.blocks(), [((0, 1), 0, ONE), ((2, 3), 1, HALF)])
        self.assertEqual(course.so_far().history, (("sum", "n", (3, 2)),))
        course.take(((1, 1), (1, 2)))
        self.assertEqual([block[2] for block in course.blocks()], [ONE, (1, 3), HALF, (1, 6)])
        tally = ((3, 2), (2, 3))
        self.assertEqual(course.so_far().history[1:], (("tally", "score", tally), ("sum", "n", (2, 3))))

    def test_votes_are_the_first_size(self):
        course = ticks("tell votes", "ask mark 0", "tell votes", votes=7)
        course.take(((7, 0),))
        self.assertEqual(course.so_far().history, (("tell", (7, 1)),) * 2)

    def test_lists_are_new(self):
        course = ticks(*TWO_ASKS)
        course.take(((3, 2),))
        kept = state(course)
        for told in (course.blocks(), course.sizes(), course.answers(), course.sizes_of([])):
            self.assertIs(type(told), list)
            told.clear()
        self.assertEqual(state(course), kept)
        self.assertEqual([type(block) for block in course.blocks()], [tuple, tuple])
        self.assertEqual([type(block[0]) for block in course.blocks()], [tuple, tuple])


class SoFar(unittest.TestCase):
    def test_at_each_question(self):
        course = ticks("seat 0", *TWO_ASKS, seats=2)
        first = (("seat", 0),)
        self.assertEqual(course.so_far(), Count(first, (0,), "open"))
        course.take(((2, 3),))
        second = first + (("tell", ONE),)
        self.assertEqual(course.so_far(), Count(second, (0,), "open"))
        course.take(((1, 1), (3, 0)))
        self.assertEqual(course.so_far(), Count(second + (("tell", (2, 1)), ("seat", 1)), (0, 1), "whole"))

    def test_what_is_told_stays_as_it_is(self):
        course = ticks("seat 0", *TWO_ASKS, seats=2)
        count = course.so_far()
        course.take(((2, 3),))
        self.assertEqual(count, Count((("seat", 0),), (0,), "open"))

    def test_the_end_digits(self):
        large = ("let n be 100000", "times 6", "let n be n * n", "end")
        course = ticks("ask mark 0", "sum x", *large, "tell 9", "ask mark 1")
        self.assertFalse(course.ended)
        course.take(((1, 4),))
        self.assertEqual((course.ended, course.question), (True, None))
        self.assertEqual(course.so_far(), Count((("sum", "x", (4, 1)),), (), "digits"))

    def test_digits_within_an_ask(self):
        large = ("let n be 10", "times 7", "let n be n * n", "end")
        course = ticks("ask mark 0", *large, "ask mark n * n", "seat 0")
        course.take(((1, 4),))
        self.assertEqual(course.so_far(), Count((), (), "digits"))
        self.assertEqual(course.blocks(), [((0, 1), 0, ONE), ((2, 3), 1, ONE)])

    def test_the_end_weighs(self):
        course = ticks("ask mark 0", "times 20", "weigh 1 by 1 / 2", "end", "ask mark 1", "seat 0", "weigh 0 by 0",
                       "seat 1",
                       seats=2)
        course.take(((1, 4),))
        self.assertFalse(course.ended)
        self.assertEqual(course.blocks()[1], ((2, 3), 1, (1, 2 ** 20)))
        course.take(((1, 0), (2, 2)))
        self.assertEqual(course.so_far(), Count((("seat", 0),), (0,), "weighs"))
        self.assertTrue(course.ended)
        self.assertEqual(caught(Ended, course.take, ((1, 0), (2, 2))), ())

    def test_a_tally_that_is_large(self):
        small = ("let n be 1 / 100000", "times 3", "let n be n * n", "end", "let free[0] be 1", "ask top free")
        body = (*small, "times 5", "weigh 0 by n", "end", "tell 1", "tally score", "tell 2")
        for row, history, end in (((0, 1), (("tell", ONE),), "digits"),
                                  ((1, 0), (("tell", ONE), ("tally", "score", ((0, 1), (0, 1))), ("tell", (2, 1))),
                                   "whole")):
            course = ticks(*body, votes=1)
            course.take((row,))
            self.assertEqual(course.so_far(), Count(history, (), end))


class Answers(unittest.TestCase):
    def test_tuples_and_lists(self):
        for answer in (((3, 2),), [[3, 2]], ([3, 2],), [(3, 2)]):
            course = ticks(*TWO_ASKS)
            course.take(answer)
            self.assertEqual(course.answers(), [((3, 2),)])
            self.assertEqual([type(value) for value in (course.answers()[0], course.answers()[0][0])], [tuple, tuple])
        course.take(answer=[(0, 3), [2, 0]])
        self.assertEqual(course.answers(), [((3, 2),), ((0, 3), (2, 0))])

    def test_lists_that_are_changed_afterwards(self):
        course = ticks(*TWO_ASKS)
        row = [3, 2]
        answer = [row]
        course.take(answer)
        row[0] = 9
        answer.append(1)
        self.assertEqual((course.answers(), course.sizes()), ([((3, 2),)], [3, 2]))

    def test_answers_stay_as_they_were(self):
        answer = [[3, 2]]
        ticks(*TWO_ASKS).take(answer)
        self.assertEqual(answer, [[3, 2]])
        wrong = [[3, 1]]
        caught(BadSizes, ticks(*TWO_ASKS).take, wrong)
        self.assertEqual(wrong, [[3, 1]])

    def refused(self, course, values):
        kept, number = state(course), course.question.number
        for value in values:
            with self.assertRaises(BadSizes) as error:
                course.take(value)
            self.assertEqual(error.exception.number, number, value)
            self.assertIsInstance(error.exception, CountError)
            self.assertEqual(state(course), kept, value)

    def test_wrong_answers_to_the_first_question(self):
        course = ticks(*TWO_ASKS)
        self.refused(course, [
            None, True, False, 0, 5, "", "32", "ab", (), [], (3, 2), [3, 2], ((3, 2), ()), ((3, 2), (0,)), ((3, 2), (3, 2)),
            ((3,),), ((5,),), ((),), ((3, 2, 0),), ((3, 1),), ((4, 2),), ((2, 2),), ((6, -1),), ((-1, 6),), ((True, 4),),
            ((5, False),), ((5, None),), ((None, 5),), (("5", 0),), ((5, ""),), (((5,), 0),), ((5, ()),), (None,), ("32",),
            (5,), (True,), ((10 ** 30, 5),), ((10 ** 30, 5 - 10 ** 30),), ((0, 10 ** 400),), course, (course,),
            ((course, 5),), (((3, 2),),), {"a": 1}])
        course.take(((4, 1),))
        self.assertEqual(course.sizes(), [4, 1])

    def test_wrong_answers_to_a_later_question(self):
        course = ticks(*TWO_ASKS)
        course.take(((3, 2),))
        self.refused(course, [
            ((3, 2),), ((2, 1),), ((1, 2), (2, 1)), ((2, 2), (1, 1)), ((3, 0), (3, -1)), ((4, -1), (2, 0)), ((1, 2),),
            ((1, 2), (2, 0), (0, 0)), ((1, 2), ()), ((), (2, 0)), ((1, 2), (2,)), ((1, 2), (2, 0, 0)), ((3, 0), (True, 1)),
            ((3, 0), (2, False)), ((3, 0), None), (None, (2, 0)), None, "", ((3, 0), (2, None)), ((3, 0), ("1", 1)),
            ((0, 3), (0, 10 ** 30)), ((2, 0), (3, 0))])
        course.take(((3, 0), (2, 0)))
        self.assertTrue(course.ended)

    def test_behind_the_end(self):
        course = ticks("ask mark 0")
        course.take(((5, 0),))
        kept = state(course)
        for value in (((5, 0),), (), None, True, ((9, 9),)):
            with self.assertRaises(Ended) as error:
                course.take(value)
            self.assertIsInstance(error.exception, TooLate)
            self.assertEqual(state(course), kept)


class Twins(unittest.TestCase):
    def test_a_twin_is_in_the_same_state(self):
        course = ticks("ask mark 0", "weigh 1 by 1 / 2", "times 3", "each a", "ask mark a from a where seated", "sum n",
                       "let score[a] be n", "end", "seat 1", "end", seats=2)
        course.take(((2, 3),))
        while not course.ended:
            twin = course.twin()
            self.assertEqual(state(twin), state(course))
            self.assertEqual(twin, course)
            self.assertIsNot(twin, course)
            kept = state(course)
            while not twin.ended:
                twin.take(random_answer(twin, random.Random(3)))
            self.assertEqual(state(course), kept)
            course.take(random_answer(course, random.Random(3)))
            if course.ended:
                self.assertEqual(state(twin), state(course))
        self.assertEqual(state(course.twin()), state(course))

    def test_twins_that_are_led_apart(self):
        course = ticks("ask mark 0", "sum n", "if 2 < n", "weigh 1 by 0", "seat 0", "end", "ask mark 1", "sum x", "seat 1",
                       seats=2)
        twin = course.twin()
        course.take(((1, 4),))
        twin.take(((4, 1),))
        self.assertEqual((course.sizes(), twin.sizes()), ([1, 4], [4, 1]))
        self.assertEqual((course.answers(), twin.answers()), ([((1, 4),)], [((4, 1),)]))
        self.assertNotEqual(course, twin)
        third = course.twin()
        course.take(((0, 1), (1, 3)))
        twin.take(((2, 2), (0, 1)))
        self.assertEqual(course.so_far(), Count((("sum", "n", (4, 1)), ("seat", 0), ("sum", "x", ONE), ("seat", 1)), (0, 1),
                                                "whole"))
        self.assertEqual(twin.so_far(), Count((("sum", "n", ONE), ("sum", "x", (3, 1)), ("seat", 1)), (1,), "whole"))
        self.assertEqual([block[2] for block in course.blocks()], [ONE, ONE, (0, 1), (0, 1)])
        self.assertEqual([block[2] for block in twin.blocks()], [ONE] * 4)
        self.assertEqual((third.ended, third.sizes(), len(third.answers())), (False, [1, 4], 1))

    def test_variables_of_twins(self):
        course = ticks("ask mark 0", "sum n", "let score[0] be n", "ask mark 1", "sum x", "let n be n + x",
                       "let score[0] be n * 2",
                       "ask mark 0 from 1", "tell n", "tell x", "tell score[0]")
        course.take(((1, 4),))
        twin = course.twin()
        course.take(((0, 1), (1, 3)))
        twin.take(((1, 0), (4, 0)))
        for led, told in ((course, (8, 4, 16)), (twin, (4, 0, 8))):
            self.assertTrue(led.ended)
            self.assertEqual([item[1] for item in led.so_far().history if item[0] == "tell"],
                             [worth(value) for value in told])

    def test_weighs_of_twins(self):
        course = ticks("times 15", "weigh 0 by 0", "end", "ask mark 0", "times 5", "weigh 0 by 1", "end", "ask mark 1",
                       "tell 1",
                       "weigh 0 by 0", "tell 2")
        for led in (course, course.twin(), course.twin().twin()):
            led.take(((2, 3),))
            twin = led.twin()
            for one in (led, twin):
                one.take(((1, 1), (3, 0)))
                self.assertEqual(one.so_far(), Count((("tell", ONE),), (), "weighs"))

    def test_twins_go_on_within_each_and_times(self):
        contest = contest_of(shelf_text("places", 2))
        course = Course(contest, 6)
        chance = random.Random(5)
        while not course.ended:
            twin = course.twin()
            answer = random_answer(course, chance)
            course.take(answer)
            other = twin.twin()
            other.take(answer)
            twin.take(answer)
            self.assertEqual(state(twin), state(course))
            self.assertEqual(state(other), state(course))


class Equal(unittest.TestCase):
    def test_equal(self):
        one, other = ticks(*TWO_ASKS), ticks(*TWO_ASKS)
        self.assertTrue(one == other)
        one.take(((3, 2),))
        self.assertTrue(one != other)
        other.take([[3, 2]])
        self.assertTrue(one == other)
        one.take(((3, 0), (2, 0)))
        other.take(((3, 0), (1, 1)))
        self.assertFalse(one == other)

    def test_unequal(self):
        course = ticks(*TWO_ASKS)
        for value in (ticks(*TWO_ASKS, votes=4), ticks(*TWO_ASKS, word="other"), ticks("ask mark 0"), None, 5, (), "course",
                      course.so_far(), course.contest):
            self.assertFalse(course == value)
            self.assertTrue(course != value)

    def test_repr(self):
        course = ticks(*TWO_ASKS)
        self.assertEqual(repr(course), "Course(0 answers)")
        course.take(((3, 2),))
        self.assertEqual(repr(course), "Course(1 answers)")
        course.take(((3, 0), (2, 0)))
        self.assertEqual(repr(course), "Course(2 answers)")


class SizesOf(unittest.TestCase):
    def test_at_each_question(self):
        course = ticks(*TWO_ASKS)
        roll = roll_of(course.contest, "bo", "-", "ann bo", "bo", "ann")
        self.assertEqual(course.sizes_of(roll), [5])
        course.take(((1, 4),))
        self.assertEqual(course.sizes_of(roll), [3, 2])
        self.assertEqual(course.sizes_of(roll=tuple(roll[:2])), [2, 0])
        self.assertEqual(course.sizes_of([]), [0, 0])
        course.take(((0, 1), (2, 2)))
        self.assertEqual(course.sizes_of(roll), [1, 2, 1, 1])
        self.assertEqual(course.sizes(), [0, 1, 2, 2])


class Leading(unittest.TestCase):
    def follow(self, contest, roll):
        """Leads a course by a roll, and looks at it at each question."""
        course = Course(contest, len(roll))
        numbers = [contest.number_of(marking) for marking in roll]
        while not course.ended:
            self.check_blocks(course)
            self.assertEqual(course.sizes_of(roll), course.sizes())
            self.assertEqual(course.so_far().end, "open")
            self.assertEqual(course.question.number, len(course.answers()))
            course.take(course.question.answer_of(numbers))
        self.check_blocks(course)
        self.assertEqual(course.sizes_of(roll), course.sizes())
        self.assertEqual(course.so_far(), plain_count(contest, roll), str(contest.rule))
        led = lead(contest, roll)
        self.assertEqual(led, course)
        self.assertEqual(state(led), state(course))
        self.assertEqual(led.votes, len(roll))
        return course

    def check_blocks(self, course):
        blocks, sizes = course.blocks(), course.sizes()
        numbers = [number for block in blocks for number in block[0]]
        self.assertEqual(sorted(numbers), list(range(len(course.contest.markings()))))
        self.assertEqual([block[0][0] for block in blocks], sorted(block[0][0] for block in blocks))
        self.assertTrue(all(list(block[0]) == sorted(block[0]) for block in blocks))
        self.assertEqual((len(sizes), sum(sizes)), (len(blocks), course.votes))
        if not course.ended:
            markings = [block[0] for block in blocks]
            places = [markings.index(part[0]) for part in course.question.parts]
            self.assertEqual(places, sorted(places))
            for block, labels, subs in course.question.parts:
                self.assertEqual(sorted(number for sub in subs for number in sub), list(block))
                self.assertEqual(list(labels), sorted(set(labels)))
                self.assertEqual(len(labels), len(subs))
                self.assertGreater(len(labels), 1)

    def test_rolls_of_each_rule_of_the_shelf(self):
        for word in SHELF:
            for seats in (1, 3):
                maker = Maker(seats)
                contest = contest_of(shelf_text(word, seats), names=("ann", "bo", "cy", "dee"),
                                     lot=("dee", "bo", "ann", "cy"))
                for _ in range(4):
                    self.follow(contest, maker.roll(contest))

    def test_rolls_of_rules_that_are_made(self):
        ends = []
        for seed in range(400):
            maker = Maker(seed)
            rule = maker.rule(maker.one_of((One(), Ticks(), Points(2), Ranks(), Lists(2))))
            names = ("ann", "bo", "cy", "dee")[:maker.one_of((2, 3, 4))]
            contest = Contest(names, names[::-1], rule)
            for _ in range(2):
                ends.append(self.follow(contest, maker.roll(contest)).so_far().end)
        self.assertEqual({end for end in ends if ends.count(end) > 5}, {"whole", "digits", "weighs"})

    def test_any_sizes_that_add_up(self):
        for seed in range(120):
            maker = Maker(2000 + seed)
            rule = maker.rule(maker.one_of((One(), Ticks(), Points(1), Ranks(), Lists(3))))
            contest = Contest(("ann", "bo", "cy"), ("cy", "ann", "bo"), rule)
            course = Course(contest, seed % 41)
            while not course.ended:
                self.check_blocks(course)
                course.take(random_answer(course, maker.random))
            self.check_blocks(course)
            # The count is that of a roll with these sizes.
            markings = contest.markings()
            roll = [markings[block[0][0]] for block, size in zip(course.blocks(), course.sizes()) for _ in range(size)]
            self.assertEqual(plain_count(contest, roll), course.so_far())
            self.assertEqual(lead(contest, roll), course)

    def test_rolls_with_the_same_sizes(self):
        contest = contest_of(shelf_text("rounds"))
        first = lead(contest, roll_of(contest, "ann > bo", "ann > cy", "bo", "cy"))
        second = lead(contest, roll_of(contest, "ann", "bo > cy", "ann > bo > cy", "cy"))
        self.assertEqual(first, second)
        self.assertEqual(first.so_far(), second.so_far())

    def test_rolls_that_are_none(self):
        contest = contest_of(shelf_text("most"))
        for value in (None, True, 0, "", contest):
            self.assertEqual(caught(InvalidRoll, lead, contest, value), (-1,))
        self.assertEqual(caught(InvalidRoll, lead, contest, [(1, 0, 0), (1, 1, 0)]), (1,))
        self.assertEqual(caught(InvalidRoll, lead, contest, [(True, 0, 0)]), (0,))
        self.assertEqual(caught(InvalidRoll, lead, contest, [(0, 0, 0)] * 41 + [None]), (41,))
        self.assertEqual(caught(TooMany, lead, contest, [(0, 0, 0)] * 41), ("ballots", 40))
        self.assertEqual(lead(contest=contest, roll=((0, 0, 1),) * 40).so_far().seats, (2,))
        self.assertEqual(lead(contest, []).votes, 0)

    def test_the_roll_stays(self):
        contest = contest_of(shelf_text("most"))
        roll = roll_of(contest, "ann", "-", "bo")
        lead(contest, roll)
        self.assertEqual(roll, roll_of(contest, "ann", "-", "bo"))

    def test_the_sums_of_a_course(self):
        course = ticks("ask mark 0 from 1", "tally score", "sum n", "tell score[1] / n", votes=8)
        course.take(((2, 6),))
        self.assertEqual(course.so_far().history, (("tally", "score", (worth(2), worth(6))), ("sum", "n", worth(6)),
                                                   ("tell", ONE)))
