"""Staffs, groups and sole-held bundles."""

import itertools
import unittest

from helpers import caught, contest_of, shelf_text
from soleheld.errors import BadStaff, CountError, Missing, NoName, TooMany
from soleheld.staffs import Staff

NAMES = tuple("abcdefghi")
NO_LISTS = (None, True, False, 0, 1, "", "a", "ab", Staff(["a"]), contest_of(shelf_text("most")))
NO_NAMES = (None, True, 0, "", "A", "a b", "abcdefghi", "a1", (), ["a"], ("a",), Staff(["a"]))


class Making(unittest.TestCase):
    def test_too_many_bundles(self):
        for lists in ([["a"]] * 13, [None] * 13, [["a"]] * 20, [[]] * 13):
            with self.assertRaises(TooMany) as error:
                Staff(*lists)
            self.assertIsInstance(error.exception, CountError)
            self.assertEqual((error.exception.what, error.exception.most), ("bundles", 12))
        self.assertEqual(len(Staff(*[["a"]] * 12)), 12)

    def test_bad_lists(self):
        for value in (*NO_LISTS, [], (), list("abcde"), tuple("abcde"), ["a", "a"], ["a", "b", "a"],
                      *([name] for name in NO_NAMES),
                      *(["a", name] for name in NO_NAMES), [["a"], ["a"]], [1, 1]):
            for at in range(3):
                lists = [["a"], ("b", "c"), ["a", "b", "c", "d"]]
                lists[at] = value
                self.assertEqual(caught(BadStaff, Staff, *lists), (at,), value)

    def test_the_first_bad_list_counts(self):
        self.assertEqual(caught(BadStaff, Staff, ["a"], [], None), (1,))
        self.assertEqual(caught(BadStaff, Staff, *[["a"]] * 11, "a"), (11,))
        # More than eight persons are refused behind this only.
        self.assertEqual(caught(BadStaff, Staff, list("abcd"), list("efgh"), ["i"], [1]), (3,))

    def test_too_many_persons(self):
        self.assertEqual(caught(TooMany, Staff, list("abcd"), list("efgh"), ["i"]), ("persons", 8))
        self.assertEqual(caught(TooMany, Staff, *[[name] for name in NAMES]), ("persons", 8))
        self.assertEqual(len(Staff(list("abcd"), list("efgh"), list("hgfe")).persons()), 8)

    def test_lists_that_are_changed_afterwards(self):
        row = ["a", "b"]
        staff = Staff(row, ("c",))
        row.append("d")
        self.assertEqual((staff.over(0), staff.persons()), (("a", "b"), ["a", "b", "c"]))
        self.assertEqual(row, ["a", "b", "d"])

    def test_no_bundles(self):
        staff = Staff()
        self.assertEqual((len(staff), staff.persons(), staff.sole(["a"]), staff.is_safe(8)), (0, [], [], True))
        self.assertEqual(list(staff.groups(3)), [()])
        self.assertTrue(staff)


class Methods(unittest.TestCase):
    def setUp(self):
        self.staff = Staff(["p", "q"], ("q",), ["r", "p", "s"], ["s"])

    def test_over(self):
        self.assertEqual([self.staff.over(bundle) for bundle in range(4)], [("p", "q"), ("q",), ("r", "p", "s"), ("s",)])
        self.assertEqual(self.staff.over(bundle=2), ("r", "p", "s"))

    def test_persons(self):
        self.assertEqual(self.staff.persons(), ["p", "q", "r", "s"])
        self.assertEqual(Staff(["z", "b"], ["a", "z"], ["b", "c"]).persons(), ["z", "b", "a", "c"])
        self.staff.persons().clear()
        self.assertEqual(self.staff.persons(), ["p", "q", "r", "s"])

    def test_bundles_of(self):
        for person, bundles in (("p", [0, 2]), ("q", [0, 1]), ("r", [2]), ("s", [2, 3])):
            self.assertEqual(self.staff.bundles_of(person), bundles)
            self.assertEqual(self.staff.bundles_of(person=person), bundles)
        self.staff.bundles_of("p").clear()
        self.assertEqual(self.staff.bundles_of("p"), [0, 2])

    def test_bundles_of_strangers(self):
        for value in ("t", "", "P", "pq", None, True, 0, ["p"], ("p",), ("p", "q"), [["p"]], self.staff):
            with self.assertRaises(NoName) as error:
                self.staff.bundles_of(value)
            self.assertIsInstance(error.exception, Missing)
            self.assertEqual(error.exception.word, value)

    def test_sole(self):
        for group, bundles in (([], []), (["p"], []), (["q"], [1]), (["p", "q"], [0, 1]), (["q", "p"], [0, 1]),
                               (["s"], [3]),
                               (["s", "r", "p"], [2, 3]), (["p", "q", "r", "s"], [0, 1, 2, 3]), (["q", "q", "q"], [1]),
                               (["x", "q", "nobody"], [1]), (["x"], []), (["p", "p", "x"], []), (("q", "s"), [1, 3])):
            self.assertEqual(self.staff.sole(group), bundles)
            self.assertEqual(self.staff.sole(group=tuple(group)), bundles)
        group = ["q", "q", "x"]
        self.staff.sole(group).clear()
        self.assertEqual(group, ["q", "q", "x"])

    def test_groups(self):
        first = [(), ("p",), ("q",), ("r",), ("s",)]
        second = [("p", "q"), ("p", "r"), ("p", "s"), ("q", "r"), ("q", "s"), ("r", "s")]
        third = [("p", "q", "r"), ("p", "q", "s"), ("p", "r", "s"), ("q", "r", "s")]
        every = first + second + third + [("p", "q", "r", "s")]
        for most, groups in ((0, [()]), (1, first), (2, first + second), (3, first + second + third), (4, every),
                             (5, every),
                             (8, every), (10 ** 9, every)):
            self.assertEqual(list(self.staff.groups(most)), groups)
            self.assertEqual(list(self.staff.groups(most=most)), groups)

    def test_groups_are_told_one_by_one(self):
        groups = self.staff.groups(2)
        self.assertEqual([next(groups), next(groups), next(groups)], [(), ("p",), ("q",)])
        self.assertEqual(sum(1 for _ in Staff(list("abcd"), list("efgh")).groups(8)), 256)

    def test_groups_by_the_order_of_persons(self):
        staff = Staff(["z", "b"], ["a"])
        self.assertEqual(list(staff.groups(2)), [(), ("z",), ("b",), ("a",), ("z", "b"), ("z", "a"), ("b", "a")])

    def test_is_safe(self):
        for lists, safe in ((["ab", "cd"], 1), (["ab", "c"], 0), (["abc", "abd", "cdef"], 2), (["abcd"], 3)):
            staff = Staff(*[list(row) for row in lists])
            self.assertEqual([staff.is_safe(most) for most in range(6)], [most <= safe for most in range(6)])
            self.assertEqual(staff.is_safe(most=1), safe >= 1)

    def test_is_safe_by_all_groups(self):
        for lists in itertools.product(["a", "ab", "bc", "abc", "abcd", "cd"], repeat=2):
            staff = Staff(*[list(row) for row in lists])
            for most in range(6):
                self.assertEqual(staff.is_safe(most), not any(staff.sole(group) for group in staff.groups(most)))

    def test_members(self):
        for name in ("p", "q", "r", "s"):
            self.assertIn(name, self.staff)
        for value in ("t", "", "pq", None, True, 0, [], ["p"], ("p",), ("p", "q"), (("p", "q"),), self.staff):
            self.assertFalse(value in self.staff)

    def test_len_and_truth(self):
        self.assertEqual([len(Staff(*[["a"]] * number)) for number in range(13)], list(range(13)))
        self.assertEqual(len(self.staff), 4)
        self.assertTrue(self.staff)

    def test_equal(self):
        self.assertTrue(self.staff == Staff(("p", "q"), ["q"], ("r", "p", "s"), ("s",)))
        for other in (Staff(["q", "p"], ["q"], ["r", "p", "s"], ["s"]), Staff(["p", "q"], ["q"], ["r", "p", "s"]),
                      Staff(["q"], ["p", "q"], ["r", "p", "s"], ["s"]), Staff(), None, (), 4,
                      (("p", "q"), ("q",), ("r", "p", "s"), ("s",)), [("p", "q"), ("q",), ("r", "p", "s"), ("s",)]):
            self.assertFalse(self.staff == other)
            self.assertTrue(self.staff != other)
        self.assertTrue(Staff() == Staff())
