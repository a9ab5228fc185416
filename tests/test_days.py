"""Days: whole elections, from casts at several places to a house over the bundles."""

import unittest

from helpers import caught, contest_of, roll_of, rule_text, shelf_text
from soleheld.books import Book, Closing, closing_of, slip_of
from soleheld.counts import Count, plain_count
from soleheld.days import Day
from soleheld.errors import BadStaff, Closed, CountError, InvalidName, InvalidNumber, NoName, TooLate, TooMany
from soleheld.forms import One
from soleheld.houses import House
from soleheld.minutes import fitting, minutes_text, read_minutes, replay
from soleheld.seals import FlatSeal, MadeSeal, WholeSeal
from soleheld.staffs import Staff
from soleheld.voices import ChangedVoice, SilentVoice, TrueVoice

ROUNDS = contest_of(shelf_text("rounds"))
SEAL = WholeSeal()
TEXTS = ("ann > bo", "bo", "cy > bo", "ann", "bo > ann", "-", "cy")


def day_of(*casts, size=12, seal=SEAL):
    """A day with these casts of a place and a text; the salts ascend."""
    day = Day(ROUNDS, seal=seal, size=size)
    for salt, (place, text) in enumerate(casts):
        day.cast(place, salt, text)
    return day


def at_places(*numbers, size=12):
    """A day with so many papers in the books of the places a, b, c .."""
    return day_of(*[(place, TEXTS[number % 7]) for place, many in zip("abcdefghijkl", numbers) for number in range(many)],
                  size=size)


def state(day):
    return (day.closed, day.places(), day.closings(), day.hands(), day.bundles())


class Making(unittest.TestCase):
    def test_sizes(self):
        for size in (1, 2, 11, 12):
            self.assertFalse(Day(ROUNDS, seal=SEAL, size=size).closed)
        for size in (0, 13, -1, True, False, None, "5", (5,), [5], One()):
            with self.assertRaises(InvalidNumber) as error:
                Day(ROUNDS, seal=SEAL, size=size)
            self.assertEqual(error.exception.value, size)
            self.assertIsInstance(error.exception, CountError)
        self.assertFalse(Day(contest=ROUNDS, seal=SEAL).closed)

    def test_at_first(self):
        self.assertEqual(state(Day(ROUNDS, seal=SEAL)), (False, [], [], [], []))


class Casting(unittest.TestCase):
    def test_entries(self):
        day, books = Day(ROUNDS, seal=SEAL), {}
        casts = (("hall", "ann"), ("mill", "bo > ann"), ("hall", "no"), ("hall", "cy"), ("mill", None))
        for salt, (place, text) in enumerate(casts):
            books.setdefault(place, Book(ROUNDS, place, seal=SEAL))
            self.assertEqual(day.cast(place, salt, text), books[place].cast(salt, text))
        self.assertEqual(day.cast(text="ann", salt=7, place="yard"), "b:yard/0/7/ann")
        self.assertEqual(day.cast("yard", 8, "ann  bo"), "spoiled")
        self.assertEqual(day.places(), ["hall", "mill", "yard"])
        self.assertEqual(day.closings()[:2], [books["hall"].close(), books["mill"].close()])

    def test_places_in_the_order_of_their_first_casts(self):
        day = day_of(("z", "ann"), ("b", "bo"), ("z", "cy"), ("a", "-"), ("b", "bo"))
        self.assertEqual(day.places(), ["z", "b", "a"])
        self.assertEqual([closing.place for closing in day.closings()], ["z", "b", "a"])
        self.assertEqual([[paper[0] for paper in papers] for papers in day.hands()], [["z", "z"], ["b", "b"], ["a"]])

    def test_refused_casts(self):
        day = at_places(60, 2)
        before = state(day)
        for values, kind, told in ((("A", -1, "ann"), InvalidName, ("A",)), ((None, 1, "ann"), InvalidName, (None,)),
                                   (("", 1, "ann"), InvalidName, ("",)),
                                   ((["a"], 1, "ann"), InvalidName, (["a"],)),
                                   (("abcdefghi", 1, "ann"), InvalidName, ("abcdefghi",)),
                                   (("c", -1, "ann"), InvalidNumber, (-1,)), (("c", 10000, "ann"), InvalidNumber, (10000,)),
                                   (("c", True, "ann"), InvalidNumber, (True,)),
                                   (("a", None, "ann"), InvalidNumber, (None,)),
                                   (("a", 1, "ann"), TooMany, ("entries", 60)),
                                   (("a", 1, "spoiled"), TooMany, ("entries", 60)),
                                   (("a", 10000, "ann"), InvalidNumber, (10000,)), ((1, 1, "ann"), InvalidName, (1,))):
            self.assertEqual(caught(kind, day.cast, *values), told)
            # A cast that is refused begins no book.
            self.assertEqual(state(day), before)
        self.assertEqual(day.cast("b", 9999, "ann"), "b:b/2/9999/ann")
        self.assertEqual(day.cast("c", 0, "ann"), "b:c/0/0/ann")
        self.assertEqual(day.places(), ["a", "b", "c"])

    def test_a_closed_day(self):
        day = at_places(2)
        day.close()
        before = state(day)
        for values in (("a", 1, "ann"), ("b", 1, "ann"), ("A", -1, "ann"), (None, None, None), (["a"], 1, "ann"),
                       (7, 1, "")):
            with self.assertRaises(Closed) as error:
                day.cast(*values)
            self.assertEqual(error.exception.place, values[0])
            self.assertIsInstance(error.exception, TooLate)
            self.assertEqual(state(day), before)

    def test_spoiled_ones(self):
        day = day_of(("a", "no"), ("a", "ann"), ("b", ""), ("b", None), ("c", "bo"))
        self.assertEqual(day.places(), ["a", "b", "c"])
        self.assertEqual([closing.number for closing in day.closings()], [2, 2, 1])
        # The number of a paper is that of its entry; a book without papers gives no bundle.
        self.assertEqual(day.hands(), [[("a", 1, 1, roll_of(ROUNDS, "ann")[0])], [("c", 0, 4, roll_of(ROUNDS, "bo")[0])]])


class Closings(unittest.TestCase):
    def test_ahead_of_the_close_and_behind_it(self):
        day, book = Day(ROUNDS, seal=SEAL), Book(ROUNDS, "a", seal=SEAL)
        for number in range(9):
            day.cast("a", number, TEXTS[number % 7])
            book.cast(number, TEXTS[number % 7])
            expected = closing_of("a", book.entries(), SEAL)
            self.assertEqual(day.closings(), [expected])
            self.assertIs(type(day.closings()[0]), Closing)
        self.assertEqual(len(day.closings()[0].milestones), 2)
        self.assertFalse(day.closed)
        before = day.closings()
        self.assertIsNone(day.close())
        self.assertIs(day.closed, True)
        self.assertEqual(day.closings(), before)

    def test_a_second_close(self):
        day = at_places(3, 2)
        day.close()
        before = state(day)
        self.assertIsNone(day.close())
        self.assertEqual(state(day), before)
        self.assertEqual(before[0], True)

    def test_no_books(self):
        day = Day(ROUNDS, seal=SEAL)
        day.close()
        self.assertEqual(state(day), (True, [], [], [], []))


class Cutting(unittest.TestCase):
    def test_sizes_of_bundles(self):
        for numbers, size, found in (((6,), 3, [3, 3]), ((7,), 3, [3, 3, 1]), ((12,), 12, [12]), ((13,), 12, [12, 1]),
                                     ((3, 4), 1, [1] * 7),
                                     ((5, 1, 4), 2, [2, 2, 1, 1, 2, 2]), ((2, 3), 12, [2, 3]), ((60,), 12, [12] * 5),
                                     ((4,), 5, [4]), ((4,), 4, [4])):
            day = at_places(*numbers, size=size)
            self.assertEqual([len(papers) for papers in day.hands()], found)
            self.assertEqual([len(bundle) for bundle in day.bundles()], found)
            papers = [paper for papers in day.hands() for paper in papers]
            self.assertEqual([(place, number) for place, number, _, _ in papers],
                             [(place, number) for place, many in zip("abc", numbers) for number in range(many)])

    def test_twelve_is_the_size_unless_another_one_is_told(self):
        day = Day(ROUNDS, seal=SEAL)
        for number in range(25):
            day.cast("a", number, "ann")
        self.assertEqual([len(papers) for papers in day.hands()], [12, 12, 1])

    def test_spoiled_ones_do_not_count(self):
        day = day_of(*[("a", text) for text in ("ann", "no", "bo", "no", "no", "cy")], ("b", "no"), ("c", "ann"), size=2)
        self.assertEqual([[number for _, number, _, _ in papers] for papers in day.hands()], [[0, 2], [5], [0]])

    def test_bundles(self):
        for seal in (SEAL, MadeSeal(1000), FlatSeal()):
            day = day_of(("a", "ann"), ("b", "no"), ("a", "bo > cy"), ("c", "-"), size=1, seal=seal)
            self.assertEqual(day.bundles(),
                             [tuple(slip_of(ROUNDS, paper, seal) for paper in papers) for papers in day.hands()])
            self.assertEqual([type(value) for value in (day.bundles(), day.bundles()[0], day.hands(), day.hands()[0])],
                             [list, tuple, list, list])

    def test_what_is_told_is_new(self):
        day = at_places(3, 2, size=2)
        before = state(day)
        for papers in day.hands():
            papers.clear()
        for found in (day.hands(), day.bundles(), day.places(), day.closings()):
            found.clear()
        self.assertEqual(state(day), before)


class Houses(unittest.TestCase):
    def staff_of(self, day, *row):
        return Staff(*[list(row) for _ in day.hands()])

    def test_against_the_plain_count(self):
        for numbers, size in (((5,), 2), ((3, 7, 1), 3), ((12, 12), 12), ((1, 1, 1), 12), ((40,), 12), ((), 5),
                              ((8, 4), 4)):
            day = at_places(*numbers, size=size)
            for close in (False, True):
                if close:
                    day.close()
                papers = [marking for papers in day.hands() for _, _, _, marking in papers]
                truth = TrueVoice(ROUNDS, day.hands())
                house = day.house(self.staff_of(day, "p", "q"), {"p": truth, "q": truth})
                self.assertIs(type(house), House)
                self.assertEqual(house.run(), plain_count(ROUNDS, papers))
                self.assertEqual(house.struck(), [])

    def test_with_a_liar(self):
        day = at_places(5, 4, size=3)
        day.close()
        truth = TrueVoice(ROUNDS, day.hands())
        lies = ChangedVoice(truth, {("sheet", 0, 0): ((3, 0, 0, 0),), ("which", 0, 0, 0, 0): (0, 1, 2)})
        staff = self.staff_of(day, "p", "q")
        house = day.house(voices={"p": truth, "q": lies}, staff=staff, chooser=(1, 0, 2))
        papers = [marking for papers in day.hands() for _, _, _, marking in papers]
        self.assertEqual(house.run(), plain_count(ROUNDS, papers))
        self.assertEqual(house.struck(), [("q", "wrong")])
        more = {"seal": SEAL, "chooser": (1, 0, 2)}
        entries = house.entries()
        self.assertEqual(replay(entries, ROUNDS, day.bundles(), staff, **more), ("fits", house.result))
        self.assertEqual(read_minutes(minutes_text(entries)), entries)
        self.assertLess(fitting(entries, ROUNDS, day.bundles(), staff, seal=SEAL), len(entries))

    def test_errors(self):
        day = at_places(5, 4, size=3)
        staff = self.staff_of(day, "p", "q")
        silent = SilentVoice()
        self.assertEqual(caught(BadStaff, day.house, Staff(["p"]), {}), (-1,))
        self.assertEqual(caught(NoName, day.house, staff, {"p": silent}), ("q",))
        self.assertEqual(caught(TooMany, at_places(13, size=1).house, staff, {}), ("bundles", 12))
        self.assertEqual(caught(TooMany, at_places(41).house, staff, {}), ("ballots", 40))
        self.assertIsNone(caught(CountError, at_places(12, size=1).house, Staff(*[["p"]] * 12), {"p": silent}))

    def test_houses_stand_alone(self):
        day = at_places(3)
        house = day.house(Staff(["p"]), {"p": TrueVoice(ROUNDS, day.hands())})
        day.cast("a", 5, "cy")
        day.close()
        self.assertEqual(house.course().votes, 3)
        self.assertIs(type(house.run()), Count)
        other = day.house(Staff(["p"]), {"p": TrueVoice(ROUNDS, day.hands())})
        self.assertEqual(other.course().votes, 4)
        self.assertFalse(other.ended)

    def test_a_rule_without_questions(self):
        contest = contest_of(rule_text("seat 2", "tell votes"))
        day = Day(contest, seal=SEAL, size=5)
        day.cast("a", 1, "ann")
        self.assertEqual(day.house(Staff(["p"]), {"p": SilentVoice()}).result,
                         Count((("seat", 2), ("tell", (1, 1))), (2,), "whole"))
