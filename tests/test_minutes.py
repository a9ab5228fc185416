"""Minutes: entries and their texts, heads, voices that are read off, fitting lengths and replays."""

import unittest

from helpers import SHELF, bundles_of, caught, contest_of, hands_of, rule_text, shelf_text
from reference_house import Setting
from soleheld.books import heads_of
from soleheld.contests import Contest
from soleheld.counts import Count, plain_count
from soleheld.errors import BadStaff, CountError, InvalidEntry, InvalidText, TooMany
from soleheld.forms import One
from soleheld.houses import Clash, House
from soleheld.minutes import (fitting, is_entry, minutes_head, minutes_text, read_minutes, replay, voices_off)
from soleheld.rules import read_rule
from soleheld.seals import FlatSeal, MadeSeal, OwnSeal, WholeSeal
from soleheld.staffs import Staff
from soleheld.voices import ChangedVoice, SilentVoice, TrueVoice

ROUNDS = contest_of(shelf_text("rounds"))
TICKS = contest_of(rule_text("ask mark 0", "ask mark 1", "seat 1", form="ticks"), names=("ann", "bo"))
FIRST = ("ann > bo", "bo", "cy > bo")
LINES = (
    (("sheet", 0, 0, "p", ((0, 1, 1, 1), (2, 0))), "sheet 0 0 p : 0 1 1 1 / 2 0"),
    (("sheet", 0, 0, "q", "silent"), "sheet 0 0 q : silent"),
    (("which", 0, 0, "p", 0, 1, ()), "which 0 0 p 0 1 :"),
    (("opened", 0, 2), "opened 0 2"),
    (("show", 0, 2, "p", (17, "cy > bo")), "show 0 2 p : 17 cy > bo"),
    (("struck", "q", "wrong"), "struck q wrong"),
    (("taken", 0, 0, ((0, 1, 1, 1),)), "taken 0 0 : 0 1 1 1"),
    (("clash", 0, 2), "clash 0 2"),
    (("told", "whole", (1,)), "told whole : 1"),
    (("sheet", 12, 3, "abcdefgh", ((7,),)), "sheet 12 3 abcdefgh : 7"),
    (("sheet", 999999999, 999999999, "p", ((-999999999, 999999999), (-1,), (0,))),
     "sheet 999999999 999999999 p : -999999999 999999999 / -1 / 0"),
    (("sheet", 1, 0, "p", "shape"), "sheet 1 0 p : shape"),
    (("which", 0, 11, "silent", 3, 2, (4,)), "which 0 11 silent 3 2 : 4"),
    (("which", 0, 0, "p", 999999999, 999999999, (-3, -3, 0, 999999999, -999999999)),
     "which 0 0 p 999999999 999999999 : -3 -3 0 999999999 -999999999"),
    (("which", 0, 0, "p", 0, 1, "silent"), "which 0 0 p 0 1 : silent"),
    (("which", 0, 0, "p", 0, 1, "shape"), "which 0 0 p 0 1 : shape"),
    (("which", 0, 0, "p", 0, 1, tuple(range(40))), "which 0 0 p 0 1 : " + " ".join(map(str, range(40)))),
    (("opened", 999999999, 0), "opened 999999999 0"),
    (("show", 0, 0, "p", "silent"), "show 0 0 p : silent"),
    (("show", 0, 0, "p", "shape"), "show 0 0 p : shape"),
    (("show", 0, 0, "p", (0, "")), "show 0 0 p : 0 "),
    (("show", 0, 0, "p", (9999, " ann  bo ")), "show 0 0 p : 9999  ann  bo "),
    (("show", 0, 0, "p", (5, "silent")), "show 0 0 p : 5 silent"),
    (("show", 0, 0, "p", (5, " : 7 / -0")), "show 0 0 p : 5  : 7 / -0"),
    (("show", 0, 0, "p", (5, "x" * 60)), "show 0 0 p : 5 " + "x" * 60),
    (("show", 999999999, 999999999, "p", (1, "-")), "show 999999999 999999999 p : 1 -"),
    *((("struck", "p", why), "struck p " + why) for why in "silent shape below sum rows spoiled seal wrong".split()),
    (("taken", 3, 2, ((0,), (1, 0), (999999999, 0, 0))), "taken 3 2 : 0 / 1 0 / 999999999 0 0"),
    (("clash", 999999999, 999999999), "clash 999999999 999999999"),
    (("told", "digits", ()), "told digits :"),
    (("told", "weighs", (0, 0, 4)), "told weighs : 0 0 4"),
    (("told", "whole", (999999999,) * 50), "told whole : " + " ".join(["999999999"] * 50)),
)
SHEET = ("sheet", 0, 0, "p")
WHICH = ("which", 0, 0, "p", 0, 1)
SHOW = ("show", 0, 0, "p")
NO_ENTRIES = (
    None, True, False, 0, 7, "", "told", "opened 0 2", (), [], ((),), ("told",), ("opened",), ("hello", 0, 0), (0, 0, 0),
    (None,), (["opened"], 0, 2), (("opened",), 0, 2), One(), ("Opened", 0, 2), ("opened", 0, 2, 3), ("opened", 0),
    ["opened", 0, 2], ("opened", 0, True), ("opened", False, 2), ("opened", 0, -1), ("opened", 0, 1000000000),
    ("opened", "0", 2), ("opened", 0, None), ("opened", 0, (2,)),
    ("clash", 0), ("clash", 0, 1, 2), ("clash", 0, -1), ["clash", 0, 1], ("clash", 0, True), ("clash", 1000000000, 0),
    ("struck", "p"), ("struck", "P", "wrong"), ("struck", "abcdefghi", "wrong"), ("struck", "", "wrong"),
    ("struck", 0, "wrong"), ("struck", "p", "Wrong"), ("struck", "p", ""), ("struck", "p", None),
    ("struck", "p", ("wrong",)),
    ("struck", ["p"], "wrong"), ("struck", "p", "whole"),
    SHEET, (*SHEET, None), (*SHEET, ""), (*SHEET, "no"), (*SHEET, "wrong"), (*SHEET, ()), (*SHEET, ((),)), (*SHEET, (1, 2)),
    (*SHEET, [(1, 2)]), (*SHEET, ([1, 2],)), (*SHEET, ((1, 2), [3])), (*SHEET, ((1, True),)), (*SHEET, ((1, None),)),
    (*SHEET, ((1, "2"),)), (*SHEET, ((1, 1000000000),)), (*SHEET, ((-1000000000, 1),)), (*SHEET, ((1, 2), ())),
    (*SHEET, ((1,),), 1), ("sheet", True, 0, "p", ((1,),)), ("sheet", 0, -1, "p", ((1,),)), ("sheet", 0, 0, 0, ((1,),)),
    ("sheet", 1000000000, 0, "p", ((1,),)), ("sheet", 0, 0, "p q", ((1,),)), (*SHEET, "silent", "silent"),
    WHICH, (*WHICH, None), (*WHICH, [1]), (*WHICH, (True,)), (*WHICH, (1, None)), (*WHICH, ((1,),)), (*WHICH, "rows"),
    (*WHICH, (1000000000,)), (*WHICH, (-1000000000,)), (*WHICH, tuple(range(41))), ("which", 0, 0, "p", 0, (1,)),
    ("which", 0, 0, "p", -1, 0, (1,)), ("which", 0, 0, "p", 0, -1, (1,)), ("which", 0, 0, "p", 0, True, (1,)),
    ("which", 0, 0, "p", 0, 1000000000, ()), ("which", 0, 0, None, 0, 0, ()),
    SHOW, (*SHOW, None), (*SHOW, (5,)), (*SHOW, (5, "ann", 1)), (*SHOW, [5, "ann"]), (*SHOW, ("5", "ann")),
    (*SHOW, (True, "ann")), (*SHOW, (-1, "ann")), (*SHOW, (10000, "ann")), (*SHOW, (5, None)), (*SHOW, (5, "x" * 61)),
    (*SHOW, (5, "ann\n")), (*SHOW, ("ann", 5)), (*SHOW, "spoiled"), (*SHOW, ()), ("show", 0, -1, "p", (5, "ann")),
    ("show", 0, 0, "", (5, "ann")), (*SHOW, (5, ("ann",))), (*SHOW, "5 ann"),
    ("taken", 0, 0), ("taken", 0, 0, ()), ("taken", 0, 0, ((),)), ("taken", 0, 0, "silent"), ("taken", 0, 0, "shape"),
    ("taken", 0, 0, ((-1, 2),)), ("taken", 0, 0, ((1, True),)), ("taken", 0, 0, [(1, 2)]), ("taken", 0, 0, ([1, 2],)),
    ("taken", 0, 0, (1, 2)), ("taken", 0, 0, ((1000000000,),)), ("taken", 0, 0, None), ("taken", 0, 0, ((1,),), 0),
    ("taken", -1, 0, ((1,),)), ("taken", 0, 0, ((1, None),)),
    ("told", "whole"), ("told", "open", ()), ("told", "whole", None), ("told", "whole", [1]), ("told", "whole", (-1,)),
    ("told", "whole", (True,)), ("told", "whole", (1000000000,)), ("told", "whole", ((1,),)), ("told", "whole", (), ()),
    ("told", None, ()), ("told", 0, ()), ("told", "whole", "silent"), ("told", "whole", 1), ("told", ("whole",), ()),
)
NO_LINES = (
    "", " ", ":", "told", "told ", "told :", "hello", "hello 0 0", "opened", "opened 0", "opened 0 ", "opened 0 2 ",
    " opened 0 2",
    "opened  0 2", "opened 0  2", "opened 0 2 3", "opened 0 2 :", "opened 0 2 : 3", "Opened 0 2", "OPENED 0 2",
    "opened 00 2",
    "opened 0 02", "opened -0 2", "opened 0 -2", "opened +0 2", "opened 0 1000000000", "opened 0 x", "opened 0 2.",
    "opened,0,2",
    "opened 0 2\t", "opened 0 2 opened 0 3",
    "clash 0", "clash 0 -1", "clash 0 01", "clash 0 1 2", "clash 0 1 :", "clash 1234567890 1", "clash  0 1",
    "struck p", "struck p ", "struck p wrong ", "struck p Wrong", "struck P wrong", "struck p hello", "struck p : wrong",
    "struck abcdefghi wrong", "struck p wrong wrong", "struck 0 wrong", "struck p whole", "struck  p wrong",
    "struck p q wrong",
    "sheet 0 0 p", "sheet 0 0 p ", "sheet 0 0 p :", "sheet 0 0 p : ", "sheet 0 0 p :1", "sheet 0 0 p: 1",
    "sheet 0 0 p  : 1",
    "sheet 0 0 p :  1", "sheet 0 0 p : 1 ", "sheet 0 0 p : 1  2", "sheet 0 0 p : 1 /", "sheet 0 0 p : / 1",
    "sheet 0 0 p : 1 / ",
    "sheet 0 0 p : 1 / / 2", "sheet 0 0 p : 1 /2", "sheet 0 0 p : 1/ 2", "sheet 0 0 p : 1/2", "sheet 0 0 p : 1 /  / 2",
    "sheet 0 0 p : -0", "sheet 0 0 p : 01", "sheet 0 0 p : 00", "sheet 0 0 p : -01", "sheet 0 0 p : +1",
    "sheet 0 0 p : --1",
    "sheet 0 0 p : - 1", "sheet 0 0 p : -", "sheet 0 0 p : 1000000000", "sheet 0 0 p : -1000000000", "sheet 0 0 p : 1 x",
    "sheet 0 0 p : Silent", "sheet 0 0 p : silent ", "sheet 0 0 p : silent 1", "sheet 0 0 p :silent", "sheet 0 0 p : wrong",
    "sheet 0 0 p silent", "sheet 0 0 p : none", "sheet 0 0 P : 1", "sheet 0 0 : 1", "sheet 0 p : 1", "sheet 0 0 0 p : 1",
    "sheet -1 0 p : 1", "sheet 0 -0 p : 1", "sheet 1234567890 0 p : 1", "sheet 0 0 p q : 1", "sheet 0 0 p : : 1",
    "sheet 0 0 p : 1 :",
    "sheet 0 0 abcdefghi : 1", "sheet 0 0 p : " + "9" * 5000, "sheet 0 0 p : silent / 1", "Sheet 0 0 p : 1",
    "sheet 0 0  p : 1",
    "which 0 0 p 0 1", "which 0 0 p 0 1 ", "which 0 0 p 0 1 : ", "which 0 0 p 0 1 :  4", "which 0 0 p 0 1 : 4 ",
    "which 0 0 p 0 1 : -0",
    "which 0 0 p 0 1 : 04", "which 0 0 p 0 1 : 4 / 5", "which 0 0 p 0 : 4", "which 0 0 p 0 1 2 : 4", "which 0 0 p -1 1 : 4",
    "which 0 0 p 0 01 : 4", "which 0 0 p 0 1 : 1000000000", "which 0 0 p 0 1 : rows", "which 0 0 p 0 1 :4",
    "which 0 0 0 1 : 4",
    "which 0 0 p 0 1 : " + " ".join(map(str, range(41))), "which 0 0 p 0 1000000000 : 4", "which 0 0 p 0 1 : silent :",
    "show 0 2 p", "show 0 2 p :", "show 0 2 p : ", "show 0 2 p : 17", "show 0 2 p : ann", "show 0 2 p :  17 ann",
    "show 0 2 p : 017 ann",
    "show 0 2 p : -1 ann", "show 0 2 p : -0 ann", "show 0 2 p : 10000 ann", "show 0 2 p : 17 " + "x" * 61,
    "show 0 2 p : silent ",
    "show 0 2 p : Shape", "show 0 2 p : spoiled", "show 0 2 p 17 ann", "show 0 -2 p : 17 ann", "show 0 p : 17 ann",
    "show 0 2 p : x ann",
    "show 0 2 p :17 ann", "show 0 2 p : + ann", "show 0 02 p : 17 ann", "show 0 2  p : 17 ann",
    "show 0 2 p : 1234567890 ann",
    "taken 0 0", "taken 0 0 :", "taken 0 0 : ", "taken 0 0 : -1", "taken 0 0 : -0", "taken 0 0 : 01", "taken 0 0 : silent",
    "taken 0 0 : shape", "taken 0 0 : 1 /", "taken 0 0 : 1  2", "taken 0 0 : 1000000000", "taken 0 : 1", "taken 0 0 p : 1",
    "taken 0 0 1",
    "taken -1 0 : 1", "taken 0 0 : 1 / 2 ", "taken 0 0 : 1 / x",
    "told whole", "told whole ", "told whole : ", "told whole :1", "told whole : 1 ", "told open :", "told whole : -1",
    "told whole : 01",
    "told whole : 1000000000", "told whole : 1 / 2", "told whole 1", "told : 1", "told whole whole : 1", "Told whole : 1",
    "told whole : x",
    "told  whole : 1", "told whole  : 1", "told digits: 1",
)
# A value of each kind that is no list of entries.
NO_LISTS = (None, True, 0, "opened 0 2\n", {}, One(), -1)


class Entries(unittest.TestCase):
    def test_there_and_back(self):
        for entry, text in LINES:
            self.assertIs(is_entry(entry), True, entry)
            self.assertEqual(minutes_text([entry]), text + "\n")
            self.assertEqual(read_minutes(text + "\n"), [entry])
        entries = [entry for entry, _ in LINES]
        text = "".join(text + "\n" for _, text in LINES)
        self.assertEqual((minutes_text(entries), minutes_text(entries=tuple(entries))), (text, text))
        self.assertEqual(read_minutes(text=text), entries)
        self.assertIs(type(read_minutes(text)), list)

    def test_what_is_read_has_tuples_and_numbers(self):
        for _, text in LINES:
            entry = read_minutes(text + "\n")[0]
            self.assertIs(type(entry), tuple)
            self.assertTrue(is_entry(entry))

    def test_no_entries(self):
        for value in NO_ENTRIES:
            self.assertIs(is_entry(value), False, value)
        self.assertIs(is_entry(value=("opened", 0, 2)), True)

    def test_each_part_of_an_entry(self):
        """Whatever stands in the place of one part: only what another line could have is an entry."""
        values = (None, True, -1, "x", "silent", (), [], ((1,),), [[1]], (1,), (5, "ann"), 1000000000, One())
        for entry, _ in LINES:
            for at in range(len(entry)):
                for value in values:
                    other = (*entry[:at], value, *entry[at + 1:])
                    if is_entry(other):
                        self.assertEqual(read_minutes(minutes_text([other])), [other])
                self.assertFalse(is_entry(entry[:at] + entry[at + 1:]))
                self.assertFalse(is_entry(list(entry)))

    def test_no_lines(self):
        for line in NO_LINES:
            self.assertEqual(caught(InvalidText, read_minutes, line + "\n"), (0, "form"), line)
            self.assertEqual(caught(InvalidText, read_minutes, f"opened 0 2\n{line}\nclash 0 2\n"), (1, "form"), line)

    def test_line_feeds(self):
        self.assertEqual((read_minutes(""), minutes_text([]), minutes_text(())), ([], "", ""))
        for text, line in (("\n", 0), ("opened 0 2", 0), ("opened 0 2\n\n", 1), ("opened 0 2\nclash 0 2", 1),
                           ("\nopened 0 2\n", 0),
                           ("opened 0 2\n\nclash 0 2\n", 1), ("opened 0 2\n ", 1), ("opened 0 2\nx\nclash 0 2", 1),
                           ("opened 0 2\nclash 0 2\ntold whole :", 2), ("show 0 0 p : 5 ann\nbo\n", 1), (" ", 0)):
            self.assertEqual(caught(InvalidText, read_minutes, text), (line, "form"), text)

    def test_values_that_are_no_strings(self):
        for value in (None, True, 0, -3, (), [], ("opened 0 2\n",), ["opened 0 2\n"], One()):
            with self.assertRaises(InvalidText) as error:
                read_minutes(value)
            self.assertEqual((error.exception.line, error.exception.why), (0, "form"))
            self.assertIsInstance(error.exception, CountError)

    def test_salts_and_texts(self):
        for salt, length, good in ((0, 0, True), (9999, 60, True), (10000, 60, False), (9999, 61, False)):
            entry = ("show", 0, 0, "p", (salt, "y" * length))
            self.assertIs(is_entry(entry), good)
            line = f"show 0 0 p : {salt} {'y' * length}\n"
            self.assertEqual(caught(InvalidText, read_minutes, line), None if good else (0, "form"))

    def test_figures(self):
        for places in range(1, 11):
            great = int("9" * places)
            self.assertIs(is_entry(("opened", great, 0)), places < 10)
            self.assertIs(is_entry(("sheet", 0, 0, "p", ((-great, great),))), places < 10)
            self.assertEqual(caught(InvalidText, read_minutes, f"taken 0 0 : {great}\n") is None, places < 10)
            self.assertEqual(caught(InvalidText, read_minutes, f"sheet 0 0 p : -{great}\n") is None, places < 10)

    def test_which_of_40_and_41(self):
        for many, good in ((39, True), (40, True), (41, False)):
            self.assertIs(is_entry((*WHICH, (7,) * many)), good)
            line = "which 0 0 p 0 1 : " + " ".join(["7"] * many) + "\n"
            self.assertEqual(caught(InvalidText, read_minutes, line), None if good else (0, "form"))


class Made:
    """A house over bundles of ballot texts, with changed true voices, at its end; and what it takes to replay it."""

    def __init__(self, texts, lists, changes=(), contest=ROUNDS, seal=WholeSeal(), chooser=()):
        self.hands = hands_of(contest, *texts)
        self.contest, self.bundles, self.staff = contest, bundles_of(contest, self.hands,
                                                                     seal), Staff(*[list(row) for row in lists])
        self.more = {"seal": seal, "chooser": chooser}
        voices = {person: ChangedVoice(TrueVoice(contest, self.hands),
                                       dict(changes).get(person, {})) for person in self.staff.persons()}
        self.house = House(contest, self.bundles, self.staff, voices, **self.more)
        self.result = self.house.run()
        self.entries = self.house.entries()

    def fitting(self, entries, **more):
        return fitting(entries, self.contest, self.bundles, self.staff, **{**self.more, **more})

    def replay(self, entries, **more):
        return replay(entries, self.contest, self.bundles, self.staff, **{**self.more, **more})


def example():
    """The first example of [36]."""
    lies = {("sheet", 0, 0): ((0, 2, 1, 0),), ("which", 0, 0, 0, 1): (0, 2), ("sheet", 0, 1): None}
    return Made([FIRST, ("ann", "bo > ann")], ["pq", "q"], {"q": lies})


def clashing():
    """A house that ends with a clash, since all strings have one seal."""
    lies = {("sheet", 0, 0): ((2, 0),), ("which", 0, 0, 0, 0): (0, 1), ("show", 0, 1): (5, "-")}
    return Made([("-", "ann")], ["pq"], {"q": lies}, contest=TICKS, seal=FlatSeal())


class Heads(unittest.TestCase):
    def test_heads(self):
        entries = [entry for entry, _ in LINES]
        texts = [text for _, text in LINES]
        for seal in (WholeSeal(), MadeSeal(1000), FlatSeal(), OwnSeal(lambda text: text[-4:])):
            for many in (0, 1, 2, 7):
                expected = heads_of("minutes", texts[:many], seal)[-1]
                self.assertEqual(minutes_head(entries[:many], seal), expected)
                self.assertEqual(minutes_head(seal=seal, entries=tuple(entries[:many])), expected)

    def test_by_hand(self):
        self.assertEqual(minutes_head([], WholeSeal()), "minutes")
        self.assertEqual(minutes_head([("opened", 0, 2)], WholeSeal()), "7:minutes/opened 0 2")
        self.assertEqual(minutes_head([("opened", 0, 2), ("told", "whole", ())], WholeSeal()),
                         "20:7:minutes/opened 0 2/told whole :")
        self.assertEqual(minutes_head([], MadeSeal(100)), MadeSeal(100).of("minutes"))


class VoicesOff(unittest.TestCase):
    def said(self, voices, person, question=None):
        voice = voices[person]
        question = House(ROUNDS, [()], Staff(["p"]), {"p": SilentVoice()}, seal=FlatSeal()).question
        return [voice.sheet(question, 0, (0,)), voice.sheet(question, 1, (0,)), voice.which(question, 0, 0, 1),
                voice.which(question, 0, 0, 2), voice.show(0, 2), voice.show(2, 0)]

    def test_what_they_say(self):
        entries = [("sheet", 0, 0, "p", ((0, 1, 1, 1),)), ("sheet", 0, 0, "q", "silent"), ("sheet", 0, 1, "q", "shape"),
                   ("which", 0, 0, "p", 0, 1, (0,)), ("which", 0, 0, "q", 0, 1, "shape"), ("which", 0, 0, "q", 0, 2, ()),
                   ("opened", 0, 2), ("show", 0, 2, "p", (17, "cy > bo")), ("show", 0, 2, "q", "shape"),
                   ("struck", "q", "wrong"),
                   ("show", 2, 0, "q", "silent"), ("taken", 0, 0, ((0, 1, 1, 1),)), ("clash", 0, 2),
                   ("told", "whole", (1,))]
        voices = voices_off(entries, Staff(["q", "r"], ["p"]))
        self.assertEqual(list(voices), ["q", "r", "p"])
        self.assertIs(type(voices), dict)
        self.assertEqual(self.said(voices, "p"), [((0, 1, 1, 1),), None, (0,), None, (17, "cy > bo"), None])
        self.assertEqual(self.said(voices, "q"), [None, "no", "no", (), "no", None])
        self.assertEqual(self.said(voices, "r"), [None] * 6)

    def test_the_first_one_of_several(self):
        entries = [("sheet", 0, 0, "p", "silent"), ("sheet", 0, 0, "p", ((1, 2),)), ("sheet", 0, 1, "p", ((3,),)),
                   ("sheet", 0, 1, "p", "silent"), ("which", 0, 0, "p", 0, 1, (4,)), ("which", 0, 0, "p", 0, 1, (5,)),
                   ("which", 0, 0, "p", 0, 2, "shape"), ("which", 0, 0, "p", 0, 2, (5,)), ("show", 0, 2, "p", (1, "x")),
                   ("show", 0, 2, "p", "shape"), ("show", 2, 0, "p", "silent"), ("show", 2, 0, "p", (1, "x"))]
        self.assertEqual(self.said(voices_off(staff=Staff(["p"]), entries=entries), "p"),
                         [None, ((3,),), (4,), "no", (1, "x"), None])
        self.assertEqual(self.said(voices_off(tuple(entries[::-1]), Staff(["p"])), "p"),
                         [((1, 2),), None, (5,), (5,), "no", (1, "x")])

    def test_other_numbers_and_persons(self):
        entries = [("sheet", 1, 0, "p", ((1, 2),)), ("sheet", 0, 0, "x", ((1, 2),)), ("which", 0, 0, "p", 1, 0, (4,)),
                   ("show", 0, 1, "p", (1, "x"))]
        self.assertEqual(self.said(voices_off(entries, Staff(["p"])), "p"), [None] * 6)
        self.assertEqual(voices_off(entries, Staff()), {})
        self.assertEqual(self.said(voices_off([], Staff(["p"])), "p"), [None] * 6)

    def test_of_whole_minutes_and_of_beginnings(self):
        made = example()
        for many in range(len(made.entries) + 1):
            voices = voices_off(made.entries[:many], made.staff)
            house = House(made.contest, made.bundles, made.staff, voices, **made.more)
            self.assertEqual(house.run() == made.result and many == len(made.entries), many == len(made.entries))
            self.assertEqual(house.entries()[:many], made.entries[:many])


class Fitting(unittest.TestCase):
    def check(self, made, entries, length, **more):
        """A list that is no beginning of the minutes fits as far as this."""
        self.assertEqual(made.fitting(entries, **more), length)
        self.assertEqual(made.replay(entries, **more), ("unfit", length))

    def test_whole_minutes_and_beginnings(self):
        for made in (example(), clashing(), Made([], []), Made([FIRST], ["p"])):
            whole = len(made.entries)
            self.assertEqual(made.fitting(made.entries), whole)
            self.assertEqual(made.replay(made.entries), ("fits", made.result))
            self.assertEqual(made.replay(tuple(made.entries)), ("fits", made.result))
            for many in range(whole):
                self.assertEqual(made.fitting(made.entries[:many]), many)
                self.assertEqual(made.replay(made.entries[:many]), ("fits", None))

    def test_results(self):
        made = clashing()
        self.assertEqual(made.result, Clash(0, 1, "placea/1/1/ann", "placea/1/5/-"))
        self.assertIs(type(made.replay(made.entries)[1]), Clash)
        self.assertEqual(example().replay(example().entries)[1].seats, (1,))
        self.assertIs(type(example().replay(example().entries)), tuple)

    def test_entries_behind_the_end(self):
        for made in (example(), clashing()):
            for behind in (("told", "whole", (1,)), ("opened", 0, 0), made.entries[0]):
                self.check(made, [*made.entries, behind], len(made.entries))

    def test_a_false_end(self):
        made = example()
        for end in (("told", "whole", (0,)), ("told", "whole", ()), ("told", "digits", (1,)), ("clash", 0, 2),
                    ("told", "whole", (1, 1))):
            self.check(made, [*made.entries[:-1], end], len(made.entries) - 1)
        self.check(made, [("told", "whole", (1,))], 0)
        self.check(clashing(), [*clashing().entries[:-1], ("clash", 0, 0)], len(clashing().entries) - 1)

    def test_without_entries(self):
        self.assertEqual((example().fitting([]), example().replay([])), (0, ("fits", None)))
        # A course without questions has one entry alone, from the beginning.
        made = Made([("ann",)], ["p"], contest=contest_of(rule_text("seat 2")))
        self.assertEqual(made.entries, [("told", "whole", (2,))])
        self.assertEqual((made.fitting([]), made.replay(())), (0, ("fits", None)))
        self.assertEqual(made.replay(made.entries), ("fits", Count((("seat", 2),), (2,), "whole")))
        self.check(made, [("told", "whole", (1,))], 0)

    def test_altered_ones(self):
        made = example()
        entries = made.entries
        self.assertEqual(entries[:3], [("sheet", 0, 0, "p", ((0, 1, 1, 1),)), ("sheet", 0, 0, "q", ((0, 2, 1, 0),)),
                                       ("which", 0, 0, "p", 0, 1, (0,))])
        # Another sheet of p is good, but it does not go with the answer to which; so p would be struck behind both answers.
        self.check(made, [("sheet", 0, 0, "p", ((0, 0, 2, 1),)), *entries[1:]], 4)
        self.check(made, [entries[0], ("sheet", 0, 0, "q", "silent"), *entries[2:]], 2)
        self.check(made, [("sheet", 0, 0, "p", ((1, 1, 1, 1),)), *entries[1:]], 1)
        self.check(made, [("sheet", 0, 0, "p", ((0, 1, 1),)), *entries[1:]], 0)
        self.check(made, [entries[1], entries[0], *entries[2:]], 0)
        self.check(made, entries[1:], 0)
        self.check(made, [*entries[:4], *entries[5:]], 4)
        self.check(made, [*entries[:4], entries[3], *entries[4:]], 4)
        self.check(made, [*entries[:2], ("which", 0, 0, "p", 0, 1, (0, 1)), *entries[3:]], 4)

    def test_an_answer_that_comes_twice(self):
        made = example()
        # What stands behind the fitting length does not take the place of what is said ahead of it.
        for behind in (("sheet", 0, 0, "p", "silent"), ("sheet", 0, 0, "q", ((0, 1, 1, 1),))):
            self.check(made, [*made.entries[:2], behind], 2)
            self.check(made, [*made.entries[:2], behind, *made.entries[2:]], 2)
        self.check(made, [("sheet", 0, 0, "p", "silent"), *made.entries], 1)

    def test_every_entry_altered(self):
        """The fitting length against that of the longest beginning that a house with the read off voices makes."""
        for made in (example(), clashing(),
                     Made([FIRST, FIRST], ["pqr", "qr"], {"q": {("sheet", 0, 1): 7}}, chooser=(1, 2))):
            others = [made.entries[0], ("opened", 0, 0), ("struck", "p", "sum"), ("sheet", 0, 0, "q", "shape"),
                      ("told", "whole", ())]
            for at in range(len(made.entries)):
                for other in others:
                    entries = [*made.entries[:at], other, *made.entries[at + 1:]]
                    self.assertEqual(made.fitting(entries), self.longest(made, entries))

    def longest(self, made, entries):
        found = 0
        for many in range(len(entries) + 1):
            house = House(made.contest, made.bundles, made.staff, voices_off(entries[:many], made.staff), **made.more)
            house.run()
            if house.entries()[:many] == entries[:many]:
                found = many
        return found

    def test_another_staff(self):
        made = example()
        self.assertEqual(fitting(made.entries, ROUNDS, made.bundles, Staff(["q", "p"], ["q"]), **made.more), 0)
        self.assertEqual(fitting(made.entries, ROUNDS, made.bundles, Staff(["p", "x"], ["q"]), **made.more), 1)
        self.assertEqual(replay(made.entries, ROUNDS, made.bundles, Staff(["p", "q"], ["p"]), **made.more)[0], "unfit")
        staff = Staff(["p", "q"], ["q", "r"])
        length = made.entries.index(("struck", "q", "wrong")) + 2
        self.assertEqual(replay(made.entries, ROUNDS, made.bundles, staff, **made.more), ("unfit", length))

    def test_another_seal(self):
        made = example()
        shows = [at for at, entry in enumerate(made.entries) if entry[0] == "show"]
        # Under another seal the first show is not good.
        self.assertEqual(made.fitting(made.entries, seal=FlatSeal()), shows[-1] + 1)
        self.assertEqual(made.replay(made.entries, seal=MadeSeal(7))[0], "unfit")

    def test_another_chooser(self):
        made = Made([FIRST, FIRST], ["p", "q"])
        self.assertEqual(made.replay(made.entries, chooser=(2, 4)), ("fits", made.result))
        self.check(made, made.entries, 0, chooser=(1,))
        turned = Made([FIRST, FIRST], ["p", "q"], chooser=(1,))
        self.assertEqual(turned.replay(turned.entries, chooser=[3, 5]), ("fits", turned.result))
        self.check(turned, turned.entries, 0, chooser=())

    def test_another_contest_and_other_bundles(self):
        made = example()
        contest = Contest(ROUNDS.names, ("cy", "bo", "ann"), read_rule(shelf_text("rounds")))
        length = len(made.entries)
        self.assertLess(fitting(made.entries, contest, made.bundles, made.staff, **made.more), length)
        self.assertEqual(fitting(made.entries, ROUNDS, made.bundles[::-1], made.staff, **made.more), 1)

    def test_names_of_arguments(self):
        made = example()
        values = {"entries": made.entries, "contest": ROUNDS, "bundles": made.bundles, "staff": made.staff, **made.more}
        self.assertEqual(fitting(**values), len(made.entries))
        self.assertEqual(replay(**values), ("fits", made.result))

    def test_houses_with_liars_of_all_kinds(self):
        ends = {}
        for seed in range(100, 300):
            setting = Setting(seed, sorted(SHELF), lambda word, seats, many: contest_of(
                shelf_text(word, seats), names=("ann", "bo", "cy", "dee")[:many]), (WholeSeal(), FlatSeal(), MadeSeal(3)))
            bundles, staff = bundles_of(setting.contest, setting.hands, setting.seal), Staff(*setting.lists)
            more = {"seal": setting.seal, "chooser": setting.chooser}
            house = House(setting.contest, bundles, staff, setting.voices, **more)
            result, entries = house.run(), house.entries()
            self.assertEqual(replay(entries, setting.contest, bundles, staff, **more), ("fits", result))
            self.assertEqual(read_minutes(minutes_text(entries)), entries)
            half = len(entries) // 2
            self.assertEqual(replay(entries[:half], setting.contest, bundles, staff, **more), ("fits", None))
            self.assertEqual(fitting([*entries[:half], *entries[half + 1:]], setting.contest, bundles, staff,
                                     **more) >= half, True)
            ends[type(result)] = ends.get(type(result), 0) + 1
        self.assertGreater(min(ends[Count], ends[Clash]), 5)


class Errors(unittest.TestCase):
    def calls(self):
        made = example()
        return (minutes_text, lambda entries: minutes_head(entries, WholeSeal()),
                lambda entries: voices_off(entries, made.staff), made.fitting, made.replay)

    def test_no_list(self):
        for call in self.calls():
            for value in NO_LISTS:
                with self.assertRaises(InvalidEntry) as error:
                    call(value)
                self.assertEqual(error.exception.at, -1)
                self.assertIsInstance(error.exception, CountError)

    def test_no_entry(self):
        for call in self.calls():
            for value in NO_ENTRIES:
                self.assertEqual(caught(InvalidEntry, call, [value]), (0,), value)
            good = [entry for entry, _ in LINES]
            self.assertEqual(caught(InvalidEntry, call, [*good[:3], ("opened", 0, True), None]), (3,))
            self.assertEqual(caught(InvalidEntry, call, (*good, list(good[0]))), (len(good),))

    def test_ahead_of_the_errors_of_a_house(self):
        bundles = [()] * 13
        for call in (fitting, replay):
            for entries, at in ((None, -1), ([("opened", 0, 2), 1], 1)):
                self.assertEqual(caught(InvalidEntry, call, entries, ROUNDS, bundles, Staff(), seal=FlatSeal()), (at,))
            self.assertEqual(caught(TooMany, call, [], ROUNDS, bundles, Staff(), seal=FlatSeal()), ("bundles", 12))
            ballots = [(("hall", 0, "x"),) * 41]
            self.assertEqual(caught(TooMany, call, [], ROUNDS, ballots, Staff(), seal=FlatSeal()), ("ballots", 40))
            self.assertEqual(caught(BadStaff, call, [], ROUNDS, [()], Staff(), seal=FlatSeal()), (-1,))

    def test_arguments_stay(self):
        made = example()
        entries, before = list(made.entries), list(made.entries)
        minutes_text(entries)
        minutes_head(entries, WholeSeal())
        voices = voices_off(entries, made.staff)
        made.fitting(entries)
        made.replay(entries)
        self.assertEqual(entries, before)
        entries.clear()
        house = House(made.contest, made.bundles, made.staff, voices, **made.more)
        self.assertEqual(house.run(), made.result)
        read_minutes("opened 0 2\n").clear()
        self.assertEqual(read_minutes("opened 0 2\n"), [("opened", 0, 2)])

    def test_the_count_of_a_replay_is_that_of_the_papers(self):
        made = Made([FIRST, ("ann", "bo > ann")], ["pq", "q"])
        roll = [marking for papers in made.hands for _, _, _, marking in papers]
        self.assertEqual(made.replay(made.entries), ("fits", plain_count(ROUNDS, roll)))
