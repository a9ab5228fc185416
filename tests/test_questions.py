"""Questions: how blocks are split, what a question keeps, and what an answer is."""

import unittest

from soleheld.questions import Question, split_block

PARTS = (((0, 1, 2, 5), (-1, 2), ((0, 5), (1, 2))), ((3, 4, 7), (0, 1, 3), ((7,), (3,), (4,))))


class Splitting(unittest.TestCase):
    def test_sub_blocks(self):
        self.assertEqual(split_block((0, 1, 2, 5), [2, -1, -1, 2]), [(-1, (1, 2)), (2, (0, 5))])
        self.assertEqual(split_block((3, 4, 7), [1, 3, 0]), [(0, (7,)), (1, (3,)), (3, (4,))])
        self.assertEqual(split_block((9, 2, 4), [0, 0, -5]), [(-5, (4,)), (0, (9, 2))])

    def test_one_label(self):
        self.assertEqual(split_block((1, 4), [0, 0]), [(0, (1, 4))])
        self.assertEqual(split_block((6,), [-2]), [(-2, (6,))])

    def test_nothing(self):
        self.assertEqual(split_block((), []), [])

    def test_kinds(self):
        found = split_block((3, 5), (1, 0))
        self.assertIs(type(found), list)
        self.assertEqual([type(item) for item in found], [tuple, tuple])
        self.assertEqual([type(sub) for _, sub in found], [tuple, tuple])

    def test_what_is_handed_in_stays(self):
        labels = [3, 1, 2]
        split_block((0, 1, 2), labels)
        self.assertEqual(labels, [3, 1, 2])

    def test_by_name(self):
        self.assertEqual(split_block(labels=[1, 0], markings=(2, 3)), [(0, (3,)), (1, (2,))])


class Questions(unittest.TestCase):
    def test_attributes(self):
        for parts in (PARTS, list(PARTS)):
            question = Question(3, parts)
            self.assertEqual((question.number, question.parts), (3, PARTS))
            self.assertIs(type(question.parts), tuple)
        question = Question(parts=PARTS[:1], number=0)
        self.assertEqual((question.number, question.parts), (0, PARTS[:1]))

    def test_a_list_that_is_changed_afterwards(self):
        parts = list(PARTS)
        question = Question(0, parts)
        parts.pop()
        self.assertEqual(question.parts, PARTS)

    def test_answer_of(self):
        question = Question(0, PARTS)
        for numbers, answer in (([], ((0, 0), (0, 0, 0))), ([0, 5, 1], ((2, 1), (0, 0, 0))),
                                ([7, 7, 3, 2, 7], ((0, 1), (3, 1, 0))), ([6, 8, 99], ((0, 0), (0, 0, 0))),
                                ([0] * 40, ((40, 0), (0, 0, 0))), ((4, 4), ((0, 0), (0, 0, 2)))):
            self.assertEqual(question.answer_of(numbers), answer)
            self.assertEqual([type(row) for row in question.answer_of(numbers)], [tuple, tuple])
        self.assertIs(type(question.answer_of([])), tuple)
        self.assertEqual(question.answer_of(numbers=[1]), ((0, 1), (0, 0, 0)))

    def test_due(self):
        question = Question(0, PARTS)
        for sizes, due in (([0, 0], ()), ([1, 0], (0,)), ([0, 7], (1,)), ([2, 3], (0, 1)), ((0, 1), (1,))):
            self.assertEqual(question.due(sizes), due)
        self.assertIs(type(question.due([0, 0])), tuple)
        self.assertEqual(question.due(sizes=[1, 1]), (0, 1))

    def test_equal(self):
        self.assertTrue(Question(1, PARTS) == Question(1, list(PARTS)))
        for other in (Question(0, PARTS), Question(1, PARTS[:1]), Question(1, PARTS[::-1]), Question(1, ()), None, 1, PARTS,
                      (1, PARTS)):
            self.assertFalse(Question(1, PARTS) == other)
            self.assertTrue(Question(1, PARTS) != other)

    def test_repr(self):
        self.assertEqual(repr(Question(0, PARTS[:1])), "Question(0, 1 parts)")
        self.assertEqual(repr(Question(12, PARTS)), "Question(12, 2 parts)")
        self.assertEqual(repr(Question(1, [])), "Question(1, 0 parts)")
