"""Books, heads, closings, clashes of lists, roads, papers and slips."""

import itertools
import unittest

from helpers import caught, contest_of, shelf_text
from soleheld.books import (Book, Closing, clash_of, closing_of, heads_of, road_pair, sealed_text, slip_of)
from soleheld.errors import Closed, InvalidName, InvalidNumber, TooLate, TooMany
from soleheld.seals import FlatSeal, MadeSeal, OwnSeal, WholeSeal

CONTEST = contest_of(shelf_text("rounds"))
SEALS = (MadeSeal(10 ** 9), MadeSeal(97), WholeSeal(), FlatSeal(), OwnSeal(lambda text: str(len(text))))
NO_TEXTS = (None, True, False, 0, 7, (), ("ann",), ["ann"], CONTEST, "", " ann", "ann  > bo", "ann\n", "x" * 61, "ann bo",
            "ann > dee", "ann > ann", "-  ")


def book(place="hall", seal=None):
    return Book(CONTEST, place, seal=WholeSeal() if seal is None else seal)


def state(made):
    return (made.head, made.closed, made.entries(), made.papers(), len(made))


def heads(place, entries, seal):
    """The heads, as [19] says them."""
    found = [seal.of(place)]
    for entry in entries:
        found.append(seal.of(str(len(found[-1])) + ":" + found[-1] + "/" + entry))
    return found


class Papers(unittest.TestCase):
    PAPER = ("hall", 3, 17, (0, 2, 0))

    def test_sealed_text(self):
        paper = ("hall", 3, 17, CONTEST.read("bo > ann"))
        self.assertEqual(sealed_text(CONTEST, paper), "hall/3/17/bo > ann")
        self.assertEqual(sealed_text(paper=("m", 0, 0, (0, 0, 0)), contest=CONTEST), "m/0/0/-")
        self.assertEqual(sealed_text(CONTEST, ("mill", 59, 9999, (3, 2, 1))), "mill/59/9999/ann > bo > cy")

    def test_slip_of(self):
        paper = ("hall", 3, 17, CONTEST.read("bo > ann"))
        self.assertEqual(slip_of(CONTEST, paper, WholeSeal()), ("hall", 3, "hall/3/17/bo > ann"))
        self.assertEqual(slip_of(CONTEST, paper, FlatSeal()), ("hall", 3, "x"))
        seal = MadeSeal(1000)
        self.assertEqual(slip_of(contest=CONTEST, paper=paper, seal=seal), ("hall", 3, seal.of("hall/3/17/bo > ann")))


class Heads(unittest.TestCase):
    LISTS = ([], ["b:1"], ["b:45", "spoiled", "b:1/2"], ["b:" + str(at) for at in range(9)], ["", "a", ""])

    def test_heads_of(self):
        for seal in SEALS:
            for entries in self.LISTS:
                found = heads_of("hall", entries, seal)
                self.assertEqual(found, heads("hall", entries, seal))
                self.assertEqual(len(found), len(entries) + 1)
                self.assertIs(type(found), list)
                self.assertEqual(heads_of(seal=seal, entries=tuple(entries), place="hall"), found)
        self.assertEqual(heads_of("hall", ["a", "bc"], WholeSeal()), ["hall", "4:hall/a", "8:4:hall/a/bc"])
        self.assertEqual(heads_of("hall", ["b:45"], OwnSeal(lambda text: "123" if text == "hall" else text))[1],
                         "3:123/b:45")

    def test_more_than_sixty_entries(self):
        entries = ["b:" + str(at) for at in range(200)]
        seal = MadeSeal(10 ** 9)
        self.assertEqual(heads_of("hall", entries, seal), heads("hall", entries, seal))
        closing = closing_of("hall", entries, seal)
        self.assertEqual((closing.number, len(closing.milestones)), (200, 50))
        self.assertIsNone(closing.stretch(entries, seal))
        self.assertEqual(closing.stretch(entries[:161] + ["b"] + entries[162:], seal), (160, 164))

    def test_lists_stay(self):
        entries = ["a", "b"]
        heads_of("hall", entries, WholeSeal()).clear()
        closing_of("hall", entries, WholeSeal())
        clash_of("hall", entries, ["a", "c"], FlatSeal())
        self.assertEqual(entries, ["a", "b"])


class Closings(unittest.TestCase):
    def test_attributes(self):
        for milestones in (("a", "b"), ["a", "b"]):
            closing = Closing("hall", 9, "z", milestones)
            self.assertEqual((closing.place, closing.number, closing.last_head, closing.milestones),
                             ("hall", 9, "z", ("a", "b")))
            self.assertIs(type(closing.milestones), tuple)
        closing = Closing(milestones=(), last_head="z", number=0, place="m")
        self.assertEqual((closing.place, closing.number, closing.last_head, closing.milestones), ("m", 0, "z", ()))

    def test_closing_of(self):
        for number in (0, 1, 3, 4, 5, 7, 8, 9, 12, 61):
            entries = ["b:" + str(at) for at in range(number)]
            for seal in SEALS:
                every = heads("hall", entries, seal)
                closing = closing_of("hall", entries, seal)
                self.assertEqual((closing.place, closing.number, closing.last_head), ("hall", number, every[-1]))
                self.assertEqual(closing.milestones, tuple(every[at] for at in range(4, number + 1, 4)))
                self.assertEqual(closing_of(seal=seal, place="hall", entries=tuple(entries)), closing)

    def test_equal(self):
        closing = Closing("hall", 9, "z", ("a", "b"))
        self.assertTrue(closing == Closing("hall", 9, "z", ["a", "b"]))
        for other in (Closing("mill", 9, "z", ("a", "b")), Closing("hall", 8, "z", ("a", "b")),
                      Closing("hall", 9, "y", ("a", "b")),
                      Closing("hall", 9, "z", ("a",)), Closing("hall", 9, "z", ("a", "c")), None, 9,
                      ("hall", 9, "z", ("a", "b")),
                      "hall", CONTEST):
            self.assertFalse(closing == other)
            self.assertTrue(closing != other)


class Stretches(unittest.TestCase):
    def stretch(self, own, other, seal=None):
        seal = MadeSeal(10 ** 9) if seal is None else seal
        return closing_of("hall", own, seal).stretch(other, seal)

    def test_lists_that_fit(self):
        for number in (0, 1, 3, 4, 5, 8, 13):
            entries = [str(at) for at in range(number)]
            for seal in SEALS:
                self.assertIsNone(self.stretch(entries, entries, seal))
                self.assertIsNone(self.stretch(entries, tuple(entries), seal))

    def test_altered_entries(self):
        # For each number of entries and each one that is altered: the stretch.
        for number in range(1, 14):
            entries = [str(at) for at in range(number)]
            for at in range(number):
                altered = entries[:at] + ["x"] + entries[at + 1:]
                low = at // 4 * 4
                expected = (low, low + 4 if low + 4 <= number else number)
                self.assertEqual(self.stretch(entries, altered), expected)
                self.assertEqual(closing_of("hall", entries, WholeSeal()).stretch(seal=WholeSeal(), entries=altered),
                                 expected)

    def test_the_first_stretch_counts(self):
        entries = [str(at) for at in range(12)]
        self.assertEqual(self.stretch(entries, ["x"] * 12), (0, 4))
        self.assertEqual(self.stretch(entries, entries[:4] + ["x"] * 8), (4, 8))

    def test_other_numbers_of_entries(self):
        entries = [str(at) for at in range(20)]
        for own, other, expected in ((3, 5, (0, 5)), (5, 3, (0, 5)), (4, 5, (4, 5)), (5, 4, (4, 5)), (8, 4, (4, 8)),
                                     (4, 8, (4, 8)),
                                     (8, 6, (4, 8)), (9, 8, (8, 9)), (0, 1, (0, 1)), (1, 0, (0, 1)), (0, 20, (0, 20)),
                                     (20, 7, (4, 20)), (12, 11, (8, 12)), (3, 2, (0, 3))):
            self.assertEqual(self.stretch(entries[:own], entries[:other]), expected, (own, other))

    def test_altered_and_of_another_number(self):
        entries = [str(at) for at in range(12)]
        self.assertEqual(self.stretch(entries, ["x"] + entries[1:5]), (0, 4))
        self.assertEqual(self.stretch(entries, entries[:5] + ["x"] + entries[6:9]), (4, 8))
        self.assertEqual(self.stretch(entries, entries[:9] + ["x"]), (8, 12))
        self.assertEqual(self.stretch(entries[:3], ["x"] + entries), (0, 13))

    def test_another_place(self):
        self.assertEqual(closing_of("hall", [], WholeSeal()).stretch([], WholeSeal()), None)
        hall = closing_of("hall", list("abcde"), WholeSeal())
        own = Closing("mill", 5, hall.last_head, hall.milestones)
        self.assertEqual(own.stretch(list("abcde"), WholeSeal()), (0, 4))

    def test_a_poor_seal(self):
        # Under a seal that gives one string for all, only the number of entries tells.
        self.assertIsNone(self.stretch(list("abcde"), list("vwxyz"), FlatSeal()))
        self.assertEqual(self.stretch(list("abcde"), list("vwxyzz"), FlatSeal()), (4, 6))

    def test_one_last_head_but_another_milestone(self):
        seal = OwnSeal(lambda text: "end" if text.endswith("/e") else text)
        first, second = list("abcde"), list("abxde")
        self.assertEqual(heads_of("hall", first, seal)[-1], heads_of("hall", second, seal)[-1])
        self.assertEqual(closing_of("hall", first, seal).stretch(second, seal), (0, 4))

    def test_one_milestone_but_another_last_head(self):
        closing = closing_of("hall", list("abcd"), WholeSeal())
        other = Closing("hall", 4, "other", closing.milestones)
        self.assertEqual(other.stretch(list("abcd"), WholeSeal()), (4, 4))


class Clashes(unittest.TestCase):
    def test_none(self):
        for seal in SEALS:
            for entries in ([], ["a"], ["a", "b"]):
                self.assertIsNone(clash_of("hall", entries, entries, seal))
                self.assertIsNone(clash_of("hall", entries, tuple(entries), seal))
                self.assertIsNone(clash_of("hall", entries, [*entries, "a"], seal))
                self.assertIsNone(clash_of("hall", ["c", *entries], entries, seal))
        self.assertIsNone(clash_of("hall", ["a", "b"], ["a", "c"], WholeSeal()))
        self.assertIsNone(clash_of("hall", ["a", "b"], ["c", "b"], MadeSeal(10 ** 9)))

    def test_under_a_flat_seal(self):
        for first, second, pair in ((["a"], ["b"], ("1:x/a", "1:x/b")), (["a", "b"], ["c", "b"], ("1:x/a", "1:x/c")),
                                    (["a", "b"], ["a", "d"], ("1:x/b", "1:x/d")),
                                    (["a", "b"], ["c", "d"], ("1:x/b", "1:x/d")),
                                    (["a", "", "b"], ["a", "c", "b"], ("1:x/", "1:x/c"))):
            self.assertEqual(clash_of("hall", first, second, FlatSeal()), pair)
            self.assertEqual(clash_of(seal=FlatSeal(), second=tuple(first), first=tuple(second), place="hall"), pair[::-1])

    def test_heads_that_differ_ahead_of_equal_entries(self):
        seal = OwnSeal(lambda text: "end" if text.endswith("/e") else text)
        pair = clash_of("hall", list("abe"), list("ace"), seal)
        self.assertEqual(pair, (f"{len('8:4:hall/a/b')}:8:4:hall/a/b/e", f"{len('8:4:hall/a/c')}:8:4:hall/a/c/e"))
        self.assertEqual(clash_of("hall", list("abeff"), list("aceff"), seal), pair)

    def test_all_short_lists_under_small_seals(self):
        for number in (2, 3, 5):
            seal = MadeSeal(number)
            found = 0
            for first, second in itertools.product(itertools.product("abc", repeat=3), repeat=2):
                pair = clash_of("hall", first, second, seal)
                ahead = (heads("hall", first, seal), heads("hall", second, seal))
                self.assertEqual(pair is None, first == second or ahead[0][-1] != ahead[1][-1])
                if pair is not None:
                    found += 1
                    at = max(at for at in range(3) if (ahead[0][at], first[at]) != (ahead[1][at], second[at]))
                    texts = tuple(f"{len(own[at])}:{own[at]}/{entries[at]}" for own, entries in zip(ahead, (first, second)))
                    self.assertEqual(pair, texts)
                    self.assertNotEqual(*pair)
                    self.assertEqual(seal.of(pair[0]), seal.of(pair[1]))
            self.assertGreater(found, 50)

    def test_many_entries(self):
        first = ["a"] * 100
        second = ["a"] * 70 + ["b"] + ["a"] * 29
        self.assertEqual(clash_of("hall", first, second, FlatSeal()), ("1:x/a", "1:x/b"))


class Roads(unittest.TestCase):
    def test_pairs(self):
        for signs, pair in (([True], None), ([False], (0, 1)), ([True, True], None), ([False, True], None),
                            ([True, False], (1, 2)), ([False, False], (0, 1)), ([True, False, False], (1, 2)),
                            ([False, True, False], (2, 3)), ([True, True, False], (2, 3)), ([False, False, False], (0, 1)),
                            ([False, False, True], None), ([True, False, True, False, False], (3, 4))):
            self.assertEqual(road_pair(signs), pair)
            self.assertEqual(road_pair(signs=tuple(signs)), pair)

    def test_a_true_place_is_never_left_alone(self):
        # One of the pair is not true, whichever of the takers change what they hand on, or sign wrongly.
        for number in (1, 2, 3):
            for true in itertools.product((True, False), repeat=number):
                for signs in itertools.product((True, False), repeat=number):
                    shown = [True]
                    for taker in range(number):
                        shown.append(shown[-1] if true[taker] else not shown[-1])
                    told = [shown[taker] if true[taker] else signs[taker] for taker in range(number)]
                    pair = road_pair([*told, shown[-1]])
                    if pair is not None:
                        honest = [True, *true, True]
                        self.assertFalse(honest[pair[0]] and honest[pair[1]])


class Books(unittest.TestCase):
    def test_a_new_book(self):
        made = Book(CONTEST, "hall", seal=WholeSeal())
        self.assertEqual((made.contest, made.place), (CONTEST, "hall"))
        self.assertEqual(state(made), ("hall", False, [], [], 0))
        self.assertTrue(made)
        self.assertEqual(repr(made), "Book(hall, 0 entries)")
        self.assertEqual(Book(seal=FlatSeal(), place="m", contest=CONTEST).head, "x")

    def test_names(self):
        for value in (None, True, 0, "", "Hall", "abcdefghi", "a b", "hall1", "hall\n", (), ["hall"], ("hall",), CONTEST):
            with self.assertRaises(InvalidName) as error:
                book(value)
            self.assertEqual(error.exception.value, value)
        self.assertEqual(book("abcdefgh").place, "abcdefgh")

    def test_the_seal_is_told_by_name_alone(self):
        with self.assertRaises(TypeError):
            Book(CONTEST, "hall", WholeSeal())
        with self.assertRaises(TypeError):
            Book(CONTEST, "hall")

    def test_casting(self):
        made = book()
        self.assertEqual(made.cast(17, "bo > ann"), "b:hall/0/17/bo > ann")
        self.assertEqual(made.cast(0, "bo >"), "spoiled")
        self.assertEqual(made.cast(text="-", salt=9999), "b:hall/2/9999/-")
        self.assertEqual(made.entries(), ["b:hall/0/17/bo > ann", "spoiled", "b:hall/2/9999/-"])
        self.assertEqual(made.papers(), [("hall", 0, 17, (2, 3, 0)), ("hall", 2, 9999, (0, 0, 0))])
        self.assertEqual(len(made), 3)
        self.assertEqual(made.head, heads("hall", made.entries(), WholeSeal())[-1])
        self.assertEqual(repr(made), "Book(hall, 3 entries)")
        made.cast(1, "cy")
        self.assertEqual(made.head, heads("hall", made.entries(), WholeSeal())[-1])

    def test_each_seal(self):
        for seal in SEALS:
            made = book(seal=seal)
            entries = [made.cast(3, "ann"), made.cast(4, "nobody"), made.cast(5, "cy > bo")]
            self.assertEqual(entries, ["b:" + seal.of("hall/0/3/ann"), "spoiled", "b:" + seal.of("hall/2/5/cy > bo")])
            self.assertEqual(made.head, heads("hall", entries, seal)[-1])
            self.assertEqual(made.close(), closing_of("hall", entries, seal))

    def test_spoiled_texts(self):
        made = book()
        for at, text in enumerate(NO_TEXTS):
            self.assertEqual(made.cast(at, text), "spoiled")
        self.assertEqual((made.papers(), len(made)), ([], len(NO_TEXTS)))
        self.assertEqual(made.entries(), ["spoiled"] * len(NO_TEXTS))

    def test_wrong_salts(self):
        made = book()
        made.cast(1, "ann")
        kept = state(made)
        for value in (-1, 10000, True, False, None, "1", "", (), [1], 10 ** 20, CONTEST):
            for text in ("ann", None):
                with self.assertRaises(InvalidNumber) as error:
                    made.cast(value, text)
                self.assertEqual(error.exception.value, value)
                self.assertEqual(state(made), kept)
        for salt in (0, 9999):
            made.cast(salt, "ann")

    def test_too_many_entries(self):
        made = book(seal=MadeSeal(10 ** 9))
        for at in range(60):
            made.cast(at, "ann" if at % 2 else None)
        kept = state(made)
        self.assertEqual(len(made), 60)
        for text in ("ann", None):
            self.assertEqual(caught(TooMany, made.cast, 1, text), ("entries", 60))
        self.assertEqual(caught(InvalidNumber, made.cast, 10000, "ann"), (10000,))
        self.assertEqual(state(made), kept)
        made.close()
        self.assertEqual(caught(Closed, made.cast, 10000, "ann"), ("hall",))

    def test_closing(self):
        made = book()
        for salt in range(5):
            made.cast(salt, "ann")
        closing = made.close()
        self.assertEqual(closing, closing_of("hall", made.entries(), WholeSeal()))
        self.assertTrue(made.closed)
        kept = state(made)
        with self.assertRaises(Closed) as error:
            made.cast(1, "ann")
        self.assertIsInstance(error.exception, TooLate)
        self.assertEqual(error.exception.place, "hall")
        self.assertEqual(caught(Closed, made.cast, None, "ann"), ("hall",))
        self.assertEqual(state(made), kept)
        self.assertEqual(made.close(), closing)
        self.assertEqual(state(made), kept)

    def test_an_empty_book_is_closed_too(self):
        made = book()
        self.assertEqual(made.close(), Closing("hall", 0, "hall", ()))
        self.assertTrue(made.closed)
        self.assertTrue(made)

    def test_members(self):
        made = book()
        entry = made.cast(17, "bo > ann")
        self.assertIn(entry, made)
        self.assertNotIn("spoiled", made)
        made.cast(1, "no")
        self.assertIn("spoiled", made)
        for value in (None, True, False, 0, 1, "", "b:", "hall", made.head, (), (entry,), [entry], made, CONTEST,
                      b"spoiled"):
            self.assertFalse(value in made)

    def test_lists_are_new(self):
        made = book()
        made.cast(17, "ann")
        kept = state(made)
        made.entries().clear()
        made.papers().clear()
        self.assertEqual(state(made), kept)
        self.assertEqual([type(made.entries()), type(made.papers()), type(made.papers()[0])], [list, list, tuple])


class CastAll(unittest.TestCase):
    def test_pairs(self):
        made, other = book(), book()
        pairs = [(1, "ann"), (2, None), (3, "cy > bo")]
        entries = made.cast_all(pairs)
        self.assertEqual(entries, [other.cast(*pair) for pair in pairs])
        self.assertIs(type(entries), list)
        self.assertEqual(state(made), state(other))
        self.assertEqual(made.cast_all(pairs=((4, "-"),)), ["b:hall/3/4/-"])
        self.assertEqual(pairs, [(1, "ann"), (2, None), (3, "cy > bo")])

    def test_an_empty_list_is_never_refused(self):
        made = book()
        self.assertEqual(made.cast_all([]), [])
        self.assertEqual(made.cast_all(()), [])
        made.cast_all([(0, "ann")] * 60)
        self.assertEqual(made.cast_all([]), [])
        made.close()
        self.assertEqual(made.cast_all([]), [])
        self.assertEqual(len(made), 60)

    def test_a_refused_pair(self):
        good = (1, "ann")
        for value in (-1, 10000, True, None, "1", (1,), [2]):
            for at in range(3):
                made = book()
                made.cast(5, "bo")
                kept = state(made)
                pairs = [good] * 3
                pairs[at] = (value, "ann")
                self.assertEqual(caught(InvalidNumber, made.cast_all, pairs), (value,))
                self.assertEqual(state(made), kept)
                self.assertNotIn("b:hall/1/1/ann", made)

    def test_the_first_refused_pair_counts(self):
        self.assertEqual(caught(InvalidNumber, book().cast_all, [(1, "ann"), (None, "ann"), (-1, "ann")]), (None,))

    def test_more_pairs_than_there_is_room_for(self):
        made = book()
        self.assertEqual(len(made.cast_all([(0, "ann")] * 58)), 58)
        kept = state(made)
        self.assertEqual(caught(TooMany, made.cast_all, [(0, "ann")] * 3), ("entries", 60))
        self.assertEqual(state(made), kept)
        # The third pair is refused: first for its salt.
        self.assertEqual(caught(InvalidNumber, made.cast_all, [(0, "ann")] * 2 + [(-7, "ann")]), (-7,))
        self.assertEqual(caught(TooMany, made.cast_all, [(0, "ann")] * 3 + [(-7, "ann")]), ("entries", 60))
        self.assertEqual(caught(InvalidNumber, made.cast_all, [(-8, "ann")] + [(0, "ann")] * 3), (-8,))
        self.assertEqual(state(made), kept)
        self.assertEqual(len(made.cast_all([(0, "ann")] * 2)), 2)
        self.assertEqual(caught(TooMany, book().cast_all, [(0, "ann")] * 61), ("entries", 60))

    def test_a_closed_book(self):
        made = book()
        made.close()
        for pairs in ([(0, "ann")], [(-1, "ann")], [(0, "ann")] * 61):
            self.assertEqual(caught(Closed, made.cast_all, pairs), ("hall",))
        self.assertEqual(len(made), 0)
