"""The five forms: their markings, and the texts of ballots."""

import itertools
import unittest

from soleheld.errors import InvalidNumber, Spoiled
from soleheld.forms import Form, Lists, One, Points, Ranks, Ticks, read_form

NAMES = ("ann", "bo", "cy", "dee", "ed")
PLAIN = (One, Ticks, Ranks)
NUMBERED = ((Points, 3), (Lists, 4))
NO_STRINGS = (None, True, 0, 5, (), ("ann",), ["ann"], [], One())


def all_forms():
    forms = [kind() for kind in PLAIN]
    for kind, most in NUMBERED:
        forms.extend(kind(number) for number in range(1, most + 1))
    return forms


def is_marking(form, marks):
    """Whether a tuple of numbers is of a form, just as [4] says it."""
    many = len(marks)
    above = [a for a in range(many) if marks[a] > 0]
    if form.word == "ticks":
        return max(marks) <= 1
    if form.word == "points":
        return max(marks) <= form.number
    if form.word == "ranks":
        return sorted(marks, reverse=True)[:len(above)] == list(range(many, many - len(above), -1))
    if max(marks) > 1:
        return False
    if form.word == "one":
        return len(above) <= 1
    lists = [a for a in above if a < form.number]
    members = [a for a in above if a >= form.number]
    if not above:
        return True
    return len(lists) == 1 and len(members) <= 1 and all(a % form.number == lists[0] for a in members)


class Markings(unittest.TestCase):
    def test_all_of_them_ascending(self):
        for form in all_forms():
            for many in range(2, 6):
                most = many if form.word == "ranks" else 3
                rows = itertools.product(range(most + 1), repeat=many)
                self.assertEqual(form.markings(many), [row for row in rows if is_marking(form, row)], (str(form), many))

    def test_each_once_and_plain(self):
        for form in all_forms():
            for many in range(2, 6):
                found = form.markings(many)
                self.assertIs(type(found), list)
                self.assertEqual(len(set(found)), len(found))
                self.assertTrue(all(type(row) is tuple and type(mark) is int for row in found for mark in row))

    def test_how_many(self):
        self.assertEqual([len(One().markings(many)) for many in range(2, 6)], [3, 4, 5, 6])
        self.assertEqual([len(Ticks().markings(many)) for many in range(2, 6)], [4, 8, 16, 32])
        self.assertEqual([len(Ranks().markings(many)) for many in range(2, 6)], [5, 16, 65, 326])
        self.assertEqual([len(Points(3).markings(many)) for many in range(2, 6)], [16, 64, 256, 1024])
        self.assertEqual([len(Lists(2).markings(many)) for many in range(2, 6)], [3, 4, 5, 6])

    def test_a_new_list_each_time(self):
        for form in all_forms():
            first = form.markings(3)
            first.append("more")
            self.assertNotIn("more", form.markings(3))

    def test_by_name(self):
        self.assertEqual(One().markings(many=2), [(0, 0), (0, 1), (1, 0)])

    def test_the_last_one_of_an_order_may_stand_or_not(self):
        self.assertIn((3, 2, 1), Ranks().markings(3))
        self.assertIn((3, 2, 0), Ranks().markings(3))

    def test_lists_and_members(self):
        self.assertEqual(Lists(2).markings(4), [(0, 0, 0, 0), (0, 1, 0, 0), (0, 1, 0, 1), (1, 0, 0, 0), (1, 0, 1, 0)])
        self.assertEqual(Lists(4).markings(2), [(0, 0), (0, 1), (1, 0)])


class Making(unittest.TestCase):
    def test_word_and_number(self):
        found = [(form.word, form.number) for form in all_forms()]
        points = [("points", number) for number in (1, 2, 3)]
        lists = [("lists", number) for number in (1, 2, 3, 4)]
        self.assertEqual(found, [("one", 0), ("ticks", 0), ("ranks", 0)] + points + lists)

    def test_wrong_numbers(self):
        for kind, most in NUMBERED:
            for value in (0, most + 1, -1, 10 ** 9, True, False, None, "1", (1,), [1], [[1], (2,)], One()):
                with self.assertRaises(InvalidNumber) as caught:
                    kind(value)
                self.assertEqual(caught.exception.value, value)
                self.assertIs(type(caught.exception.value), type(value))

    def test_by_name(self):
        self.assertEqual(Points(number=2).number, 2)
        self.assertEqual(Lists(number=2).number, 2)

    def test_the_base(self):
        for form in all_forms():
            self.assertIsInstance(form, Form)

    def test_str_and_read_form(self):
        texts = ["one", "ticks", "ranks", "points 1", "points 2", "points 3", "lists 1", "lists 2", "lists 3", "lists 4"]
        self.assertEqual([str(form) for form in all_forms()], texts)
        for form in all_forms():
            self.assertEqual(read_form(str(form)), form)
            self.assertIs(type(read_form(str(form))), type(form))

    def test_no_form(self):
        for value in ("", "One", "one ", " one", "one 0", "points", "points 0", "points 4", "points  2", "points 02",
                      "lists", "lists 0", "lists 5", "ranks 1", "ranks\n", "form one", *NO_STRINGS):
            self.assertIsNone(read_form(value), value)

    def test_equal(self):
        for at, form in enumerate(all_forms()):
            for other_at, other in enumerate(all_forms()):
                self.assertIs(form == other, at == other_at)
            for other in (None, str(form), form.word, (form.word, form.number), 0):
                self.assertFalse(form == other)
                self.assertTrue(form != other)


class Texts(unittest.TestCase):
    def test_all_are_read_back(self):
        for form in all_forms():
            for many in range(2, 6):
                texts = [form.written(NAMES[:many], marking) for marking in form.markings(many)]
                self.assertEqual([form.read(NAMES[:many], text) for text in texts], form.markings(many))

    def test_written(self):
        for form, marking, text in (
                (One(), (0, 0, 0), "-"), (One(), (0, 1, 0), "bo"), (Ticks(), (0, 0, 0), "-"),
                (Ticks(), (1, 0, 1), "ann cy"), (Points(2), (2, 1, 0), "ann 2 bo 1"), (Points(3), (0, 0, 3), "cy 3"),
                (Points(1), (0, 0, 0), "-"), (Ranks(), (2, 3, 0), "bo > ann"), (Ranks(), (1, 3, 2), "bo > cy > ann"),
                (Ranks(), (0, 0, 3), "cy"), (Ranks(), (0, 0, 0), "-"), (Lists(2), (1, 0, 1), "ann cy"),
                (Lists(2), (0, 1, 0), "bo"), (Lists(4), (0, 0, 1), "cy"), (Lists(1), (0, 0, 0), "-")):
            self.assertEqual(form.written(NAMES[:3], marking), text)
            self.assertEqual(form.written(list(NAMES[:3]), marking), text)
            self.assertEqual(form.read(list(NAMES[:3]), text), marking)

    def test_by_name(self):
        self.assertEqual(Ranks().written(names=NAMES[:2], marking=(1, 2)), "bo > ann")
        self.assertEqual(Ranks().read(names=NAMES[:2], text="bo > ann"), (1, 2))


class Spoiling(unittest.TestCase):
    def reason(self, form, text, names=NAMES[:4]):
        with self.assertRaises(Spoiled) as caught:
            form.read(names, text)
        self.assertEqual(caught.exception.ballot, text)
        self.assertIs(type(caught.exception.ballot), type(text))
        return caught.exception.why

    def check(self, form, texts, why):
        for text in texts:
            self.assertEqual(self.reason(form, text), why, (str(form), text))

    def test_no_strings(self):
        for form in all_forms():
            self.check(form, [*NO_STRINGS, [["ann"]]], "signs")

    def test_signs(self):
        texts = ("", " ", "  ", " ann", "ann ", "ann  bo", "ann\n", "\nann", "ann\nbo", " -", "- ", "-\n", "x  >", "ann " * 9)
        for form in all_forms():
            self.check(form, texts, "signs")

    def test_length(self):
        for form in all_forms():
            self.check(form, ["x" * 61, "ann 1 " * 10 + "x"], "signs")
        for form, why in ((One(), "name"), (Ticks(), "name"), (Ranks(), "name"), (Points(3), "shape"), (Lists(2), "name")):
            self.check(form, ["x" * 60], why)

    def test_shape(self):
        self.check(One(), ("ann bo", "- ann", "- -", "ann ann", "zoe zed", "ann > bo"), "shape")
        self.check(Points(2), ("ann", "ann bo", "ann 0", "ann 3", "ann 1 bo", "ann 01", "ann -1", "1 ann", "ann -", "- -",
                               "ann 1 -", "ann 1 bo 3", "zoe 9", "ann 11", "ann 1 ann 3", "bo 1 ann x"), "shape")
        self.check(Points(1), ("ann 2",), "shape")
        self.check(Points(3), ("ann 4",), "shape")
        self.check(Ranks(), ("ann bo", "ann >", "> ann", "ann > bo >", "ann - bo", "ann > bo cy", "ann < bo",
                             "zoe bo", "- -", "ann >> bo"), "shape")
        self.check(Lists(2), ("ann cy dee", "ann - bo", "zoe bo cy", "- - -"), "shape")

    def test_name(self):
        self.check(One(), ("zoe", "Ann", "ann1", "1", "ed", ">", "--"), "name")
        self.check(Ticks(), ("zoe", "ann zoe", "- ann", "ann -", "- -", "ann > bo", "zoe zoe", "bo ann zoe", "ann ann zoe"),
                   "name")
        self.check(Points(2), ("zoe 1", "- 1", "ann 1 zoe 2", "zoe 1 zoe 1", "bo 1 ann 1 zoe 1", "ann 1 ann 2 zoe 1",
                               "1 1", "ann 1 - 2"), "name")
        self.check(Ranks(), ("zoe", ">", "- > ann", "ann > -", "ann > zoe", "> > >", "ann > >", "zoe > zoe", "ann > ann > zoe"), "name")
        self.check(Lists(2), ("zoe", "cy", "dee", "ann bo", "bo ann", "ann ann", "cy dee", "ann zoe", "zoe cy", "- cy",
                              "ann -", "cy ann", "cy cy"), "name")

    def test_double(self):
        self.check(Ticks(), ("ann ann", "ann bo ann", "bo bo ann"), "double")
        self.check(Points(2), ("ann 1 ann 1", "ann 1 ann 2", "bo 1 ann 1 bo 1"), "double")
        self.check(Ranks(), ("ann > ann", "ann > bo > ann", "bo > ann > bo > cy"), "double")

    def test_order(self):
        self.check(Ticks(), ("bo ann", "ann cy bo", "dee cy bo ann"), "order")
        self.check(Points(3), ("bo 1 ann 3", "ann 1 cy 2 bo 3"), "order")

    def test_list(self):
        self.check(Lists(2), ("ann dee", "bo cy"), "list")
        self.check(Lists(3), ("bo dee", "cy dee"), "list")

    def test_lists_that_are_all_candidates(self):
        for number in (2, 3, 4):
            self.assertEqual(Lists(number).read(("ann", "bo"), "bo"), (0, 1))
            self.assertEqual(self.reason(Lists(number), "ann bo", ("ann", "bo")), "name")

    def test_copies_what_it_tells(self):
        text = [["ann"]]
        with self.assertRaises(Spoiled) as caught:
            One().read(NAMES, text)
        text[0].append("bo")
        self.assertEqual(caught.exception.ballot, [["ann"]])
