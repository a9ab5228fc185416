"""The four kinds of seals."""

import unittest

from helpers import caught
from soleheld import seals
from soleheld.errors import InvalidNumber
from soleheld.seals import FlatSeal, MadeSeal, OwnSeal, Seal, WholeSeal

TEXTS = ("", "a", "ab", "ba", "hall/3/17/bo > ann", " ", "~", "\n", "a\nb", "3:123/b:45", "x" * 5000)


def made(number, text):
    """The made-up seal, as a sum of powers."""
    total = 7 * 31 ** len(text)
    for place, sign in enumerate(reversed(text)):
        total += (ord(sign) + 1) * 31 ** place
    return str(total % number) if text else "7"


class Seals(unittest.TestCase):
    def test_bases(self):
        for kind in (MadeSeal, WholeSeal, FlatSeal, OwnSeal):
            self.assertEqual(kind.__bases__, (Seal,))
            self.assertIn("of", vars(kind))
            self.assertEqual(kind.__module__, seals.__name__)

    def test_made_seal(self):
        for number in (2, 3, 31, 97, 1000, 999999937, 10 ** 9):
            seal = MadeSeal(number)
            for text in TEXTS:
                self.assertEqual(seal.of(text), made(number, text))
                self.assertEqual(seal.of(text=text), seal.of(text))
                self.assertIs(type(seal.of(text)), str)
        self.assertEqual(MadeSeal(number=10 ** 9).of("a"), "315")
        self.assertEqual(MadeSeal(100).of("a"), "15")
        self.assertEqual(MadeSeal(10 ** 9).of("ab"), str(315 * 31 + 99))
        self.assertEqual(MadeSeal(2).of(""), "7")
        self.assertEqual(MadeSeal(2).of("a"), "1")

    def test_wrong_numbers(self):
        for value in (1, 0, -1, -5, 10 ** 9 + 1, 10 ** 30, True, False, None, "", "7", (), (7,), [7], MadeSeal(7)):
            with self.assertRaises(InvalidNumber) as error:
                MadeSeal(value)
            self.assertEqual(error.exception.value, value)
            self.assertIs(type(error.exception.value), type(value))

    def test_whole_seal(self):
        self.assertEqual([WholeSeal().of(text) for text in TEXTS], list(TEXTS))
        self.assertEqual(WholeSeal().of(text="a"), "a")

    def test_flat_seal(self):
        self.assertEqual([FlatSeal().of(text) for text in TEXTS], ["x"] * len(TEXTS))
        self.assertEqual(FlatSeal().of(text="a"), "x")

    def test_own_seal(self):
        seal = OwnSeal(function=lambda text: text[::-1] + "!")
        self.assertEqual([seal.of(text) for text in TEXTS], [text[::-1] + "!" for text in TEXTS])
        self.assertEqual(seal.of(text="ab"), "ba!")

    def test_the_same_string_each_time(self):
        for seal in (MadeSeal(1000), WholeSeal(), FlatSeal(), OwnSeal(len)):
            first = [seal.of(text) for text in TEXTS]
            self.assertEqual([seal.of(text) for text in reversed(TEXTS)][::-1], first)

    def test_good_numbers(self):
        for number in (2, 10 ** 9):
            self.assertIsNone(caught(InvalidNumber, MadeSeal, number))
