"""Names, numbers and the own words."""

import unittest

from soleheld.forms import One
from soleheld.words import OWN, is_name, is_number

NO_STRINGS = (None, True, False, 0, 7, (), ("ann",), [], ["ann"], One())


class Names(unittest.TestCase):
    def test_names(self):
        for value in ("a", "z", "ann", "seatsabc", "abcdefgh", "rule", "sum"):
            self.assertIs(is_name(value), True, value)

    def test_too_long_or_empty(self):
        for value in ("", "abcdefghi", "a" * 40):
            self.assertIs(is_name(value), False, value)

    def test_other_signs(self):
        for value in ("Ann", "ANN", "a b", " a", "a ", "a1", "1", "a-b", "a_b", "-", "a.", "`", "{", "~", "\n"):
            self.assertIs(is_name(value), False, value)

    def test_a_line_feed_behind_the_letters(self):
        for value in ("ann\n", "abcdefgh\n", "\nann"):
            self.assertIs(is_name(value), False, value)

    def test_letters_beyond_ascii(self):
        for value in ("\u00e9", "a\u00df", "\u0430nn"):
            self.assertIs(is_name(value), False, value)

    def test_values_that_are_no_strings(self):
        for value in NO_STRINGS:
            self.assertIs(is_name(value), False, value)

    def test_by_name(self):
        self.assertIs(is_name(value="ann"), True)


class Numbers(unittest.TestCase):
    def test_bounds(self):
        for value, said in ((2, False), (3, True), (4, True), (7, True), (8, False), (-3, False)):
            self.assertIs(is_number(value, 3, 7), said, value)
        self.assertIs(is_number(5, 5, 5), True)
        self.assertIs(is_number(5, 6, 4), False)
        self.assertIs(is_number(-2, -2, -1), True)
        self.assertIs(is_number(10 ** 300, 0, 10 ** 300), True)

    def test_booleans_are_no_numbers(self):
        self.assertIs(is_number(True, 0, 1), False)
        self.assertIs(is_number(False, 0, 1), False)

    def test_other_kinds(self):
        for value in (None, "", "1", (), (1,), [], [1], One()):
            self.assertIs(is_number(value, 0, 9), False, value)

    def test_by_name(self):
        self.assertIs(is_number(value=1, least=1, most=2), True)
        self.assertIs(is_number(most=2, least=1, value=3), False)


class OwnWords(unittest.TestCase):
    def test_in_order(self):
        words = ("rule form seats row num begin let be if else end each times leave ask where tally sum weigh by seat "
                 "tell lot votes names seated and or not floor min max top mark from over")
        self.assertEqual(OWN, tuple(words.split()))
