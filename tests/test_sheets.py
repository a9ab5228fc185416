"""Good answers, and the reasons for which a person is struck."""

import unittest

from helpers import contest_of, shelf_text
from soleheld.books import slip_of
from soleheld.questions import Question
from soleheld.seals import FlatSeal, MadeSeal, WholeSeal
from soleheld.sheets import lone_ballot, parting, sheet_fault, show_fault, which_fault

CONTEST = contest_of(shelf_text("rounds"))
MOST = 999999999
# Three parts, with two, three and two sub-blocks.
QUESTION = Question(2, (((0, 1), (0, 1), ((0,), (1,))), ((2, 3, 4), (-1, 0, 1), ((3,), (2,), (4,))),
                        ((5, 6), (0, 2), ((5,), (6,)))))
NO_LISTS = (True, False, 0, 3, -1, "", "12", "silent", CONTEST, WholeSeal())
NO_NUMBERS = (True, False, None, "1", "", (), (1,), [1], MOST + 1, -MOST - 1, 10 ** 30, CONTEST)


class Sheets(unittest.TestCase):
    def fault(self, answer, due=(0, 1), sizes=(3, 2)):
        fault = sheet_fault(QUESTION, due, list(sizes), answer)
        self.assertEqual(sheet_fault(answer=answer, sizes=sizes, due=due, question=QUESTION), fault)
        return fault

    def test_good(self):
        for answer in (((1, 2), (0, 2, 0)), [[1, 2], [0, 2, 0]], ([1, 2], (0, 2, 0)), ((0, 3), (2, 0, 0)),
                       [(3, 0), [1, 0, 1]]):
            self.assertEqual(self.fault(answer), "")
        self.assertEqual(self.fault(((1, 2), (4, 0)), (0, 2), (3, 4)), "")
        self.assertEqual(self.fault(((0, 2, 0),), (1,), (2,)), "")
        self.assertEqual(self.fault(((MOST, 0),), (0,), (MOST,)), "")

    def test_silent(self):
        self.assertEqual(self.fault(None), "silent")
        self.assertEqual(self.fault(None, (), ()), "silent")

    def test_shape(self):
        for answer in (*NO_LISTS, (), [], ((1, 2),), ((1, 2), (0, 2, 0), ()), ((1, 2), (0, 2, 0), (0, 0)),
                       ((0, 2, 0), (1, 2)),
                       ((1, 2), None), (None, (0, 2, 0)), ((1, 2), "020"), ("12", (0, 2, 0)), ((1, 2), 2), (3, 2),
                       (1, 2, 0, 2, 0),
                       ((1,), (0, 2, 0)), ((1, 2, 0), (0, 2, 0)), ((), (0, 2, 0)), ((1, 2), (0, 2)), ((1, 2), (0, 2, 0, 0)),
                       (((1, 2), (0, 2, 0)),), ((1, 2), True)):
            self.assertEqual(self.fault(answer), "shape", answer)
        for value in NO_NUMBERS:
            for answer in (((value, 2), (0, 2, 0)), ((1, value), (0, 2, 0)), ((1, 2), (0, 2, value)),
                           [[1, 2], [value, 2, 0]]):
                self.assertEqual(self.fault(answer), "shape", answer)

    def test_shape_comes_ahead_of_the_others(self):
        self.assertEqual(self.fault(((-1, 4), (0, True, 0))), "shape")
        self.assertEqual(self.fault(((-MOST - 1, MOST), (0, 2, 0))), "shape")
        self.assertEqual(self.fault(((5, 5), (0, MOST + 1, 0))), "shape")

    def test_below(self):
        for answer in (((-1, 4), (0, 2, 0)), ((4, -1), (0, 2, 0)), ((1, 2), (-1, 2, 1)), ((1, 2), (2, 1, -1)),
                       ((-MOST, MOST), (0, 2, 0)), [[1, 2], [-MOST, 0, 0]], ((9, 9), (0, 3, -1)), ((-1, 9), (0, 2, 0))):
            self.assertEqual(self.fault(answer), "below", answer)

    def test_sum(self):
        for answer in (((1, 1), (0, 2, 0)), ((1, 3), (0, 2, 0)), ((1, 2), (0, 2, 1)), ((1, 2), (0, 0, 0)),
                       ((2, 0), (3, 0, 0)),
                       ((MOST, MOST), (0, 2, 0)), [[1, 2], [MOST, 0, 0]]):
            self.assertEqual(self.fault(answer), "sum", answer)

    def test_an_empty_due(self):
        for answer in ((), []):
            self.assertEqual(self.fault(answer, (), ()), "")
        for answer in (*NO_LISTS, ((),), [[]], ((0, 0),), (0,)):
            self.assertEqual(self.fault(answer, (), ()), "shape")

    def test_sizes_that_are_zero(self):
        self.assertEqual(self.fault(((0, 0), (0, 0, 0)), (0, 1), (0, 0)), "")
        self.assertEqual(self.fault(((0, 0), (0, 1, 0)), (0, 1), (0, 0)), "sum")
        self.assertEqual(self.fault(((-1, 1), (0, 0, 0)), (0, 1), (0, 0)), "below")
        self.assertEqual(self.fault(((0, 0),), (0, 1), (0, 0)), "shape")


class Whiches(unittest.TestCase):
    def fault(self, answer, size=2, many=5):
        fault = which_fault(answer, size, many)
        self.assertEqual(which_fault(many=many, size=size, answer=answer), fault)
        return fault

    def test_good(self):
        for answer in ((0, 1), [0, 4], (3, 4)):
            self.assertEqual(self.fault(answer), "")
        self.assertEqual(self.fault((), 0), "")
        self.assertEqual(self.fault([], 0, 0), "")
        self.assertEqual(self.fault(tuple(range(40)), 40, 40), "")

    def test_silent(self):
        self.assertEqual(self.fault(None), "silent")
        self.assertEqual(self.fault(None, 0, 0), "silent")

    def test_shape(self):
        for answer in (*NO_LISTS, tuple(range(41)), [0] * 41, list(range(60))):
            self.assertEqual(self.fault(answer), "shape")
        self.assertEqual(self.fault(tuple(range(41)), 41, 41), "shape")
        for value in NO_NUMBERS:
            for answer in ((0, value), [value, 1], (value,), (4, 3, value), (9, value)):
                self.assertEqual(self.fault(answer), "shape", answer)

    def test_rows(self):
        for answer in ((1, 0), (1, 1), [4, 3], (0, 5), (-1, 0), (0, MOST), (-MOST, 1), (0,), (0, 1, 2), (), (2, 2, 3),
                       (0, 0),
                       (0,) * 40, [-2, -1], (5, 6)):
            self.assertEqual(self.fault(answer), "rows", answer)
        self.assertEqual(self.fault((0,), 0), "rows")
        self.assertEqual(self.fault((0,), 1, 0), "rows")
        self.assertEqual(self.fault(tuple(range(40)), 40, 39), "rows")
        self.assertEqual(self.fault((0, 2, 1), 3), "rows")
        self.assertEqual(self.fault((1,), 1, 1), "rows")


class Shows(unittest.TestCase):
    SLIP = slip_of(CONTEST, ("hall", 3, 17, CONTEST.read("bo > ann")), WholeSeal())

    def fault(self, answer, slip=None, seal=None):
        slip = self.SLIP if slip is None else slip
        seal = WholeSeal() if seal is None else seal
        fault = show_fault(CONTEST, slip, seal, answer)
        self.assertEqual(show_fault(answer=answer, seal=seal, slip=slip, contest=CONTEST), fault)
        return fault

    def test_good(self):
        self.assertEqual(self.fault((17, "bo > ann")), "")
        self.assertEqual(self.fault([17, "bo > ann"]), "")
        for salt in (0, 9999):
            self.assertEqual(self.fault((salt, "-"), ("m", 0, f"m/0/{salt}/-")), "")

    def test_silent(self):
        self.assertEqual(self.fault(None), "silent")

    def test_shape(self):
        for answer in (*NO_LISTS, (), [], (17,), (17, "bo > ann", 1), ("bo > ann", 17), ("17", "bo > ann"), (17, 17),
                       (17, None),
                       (None, "bo > ann"), (-1, "bo > ann"), (10000, "bo > ann"), (True, "bo > ann"), (False, "-"),
                       (17, "x" * 61),
                       (17, "bo > ann\n"), (17, "\n"), (17, ["bo > ann"]), (17, ("bo",)), ([17], "bo > ann"), (MOST, "bo"),
                       ((17, "bo > ann"),), (17, True), ("", ""), "ab"):
            self.assertEqual(self.fault(answer), "shape", answer)

    def test_spoiled(self):
        for text in ("", "x" * 60, " ", "bo >", "bo > bo", "bo > dee", "BO", "bo  > ann", "bo > ann ", "bo 1", "--",
                     "-" * 60):
            self.assertEqual(self.fault((17, text)), "spoiled", text)
            self.assertEqual(self.fault([0, text]), "spoiled", text)

    def test_seal(self):
        for answer in ((18, "bo > ann"), (17, "bo"), (17, "ann > bo"), (0, "-"), [9999, "cy"]):
            self.assertEqual(self.fault(answer), "seal")
        for slip in (("mill", 3, "hall/3/17/bo > ann"), ("hall", 2, "hall/3/17/bo > ann"), ("hall", 3, "x"),
                     ("hall", 3, "")):
            self.assertEqual(self.fault((17, "bo > ann"), slip), "seal")

    def test_other_seals(self):
        self.assertEqual(self.fault((5, "cy"), ("hall", 3, "x"), FlatSeal()), "")
        self.assertEqual(self.fault((5, "cy"), ("hall", 3, "y"), FlatSeal()), "seal")
        self.assertEqual(self.fault((5, "dee"), ("hall", 3, "x"), FlatSeal()), "spoiled")
        seal = MadeSeal(10 ** 9)
        self.assertEqual(self.fault((5, "cy"), ("hall", 3, seal.of("hall/3/5/cy")), seal), "")
        self.assertEqual(self.fault((5, "cy"), ("hall", 3, seal.of("hall/3/6/cy")), seal), "seal")


class Comparing(unittest.TestCase):
    def test_parting(self):
        for first, second, found in ((((1, 2), (0, 2)), ((1, 2), (0, 2)), None),
                                     (((1, 2), (0, 2)), ((1, 2), (1, 1)), (1, 0)),
                                     (((1, 2), (0, 2)), ((0, 3), (1, 1)), (0, 0)), (((0, 1, 2),), ((0, 2, 1),), (0, 1)),
                                     (((1, 2), (0, 1, 1)), ((1, 2), (0, 2, 0)), (1, 1)), ((), (), None),
                                     (((0, 0, 1),), ((0, 0, 2),), (0, 2))):
            for one in (first, [list(row) for row in first]):
                for other in (second, [list(row) for row in second]):
                    self.assertEqual(parting(one, other), found)
                    self.assertEqual(parting(second=one, first=other), found)
        self.assertIs(type(parting(((1,),), ((2,),))), tuple)

    def test_lone_ballot(self):
        for first, second, found in (((), (), None), ((0, 2), (0, 2), None), ((0,), (0, 2), 2), ((0, 2), (0,), 2),
                                     ((1, 2), (0, 3), 0),
                                     ((0, 3), (1, 2), 0), ((), (5,), 5), ((4,), (), 4), ((1, 3, 7), (1, 4, 7), 3),
                                     ((1, 5), (1, 4), 4),
                                     ((2,), (0, 2, 4), 0)):
            for one in (first, list(first)):
                for other in (second, list(second)):
                    self.assertEqual(lone_ballot(one, other), found)
                    self.assertEqual(lone_ballot(second=one, first=other), found)

    def test_arguments_stay(self):
        first, second = [[1, 2]], [[2, 1]]
        parting(first, second)
        numbers = [3, 1]
        lone_ballot(numbers, [1])
        which_fault(numbers, 2, 5)
        sheet_fault(QUESTION, (0,), [3], first)
        self.assertEqual((first, second, numbers), ([[1, 2]], [[2, 1]], [3, 1]))
