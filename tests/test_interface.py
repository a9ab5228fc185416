"""Every name of the interface: where it is defined, its arguments, and calls with all of them by place and by name."""

import ast
import importlib
import inspect
import pathlib
import unittest

import soleheld
from helpers import shelf_text
from soleheld import errors
from soleheld.books import Book, Closing, clash_of, closing_of, heads_of, road_pair, sealed_text, slip_of
from soleheld.branches import branches, reach
from soleheld.contests import Contest
from soleheld.counts import Count, from_label, over_label, plain_count, top_label
from soleheld.courses import Course, lead
from soleheld.days import Day
from soleheld.draws import differing, draws, least_draws, needed, risk
from soleheld.forms import Lists, One, Points, Ranks, Ticks, read_form
from soleheld.ghosts import ghosts, has_sizes, mixed_roll
from soleheld.houses import Clash, House
from soleheld.margins import least_group, margin
from soleheld.minutes import fitting, is_entry, minutes_head, minutes_text, read_minutes, replay, voices_off
from soleheld.questions import Question, split_block
from soleheld.rules import read_rule, write_expression
from soleheld.seals import FlatSeal, MadeSeal, OwnSeal, WholeSeal
from soleheld.sheets import lone_ballot, parting, sheet_fault, show_fault, which_fault
from soleheld.shelf import shelf_rule
from soleheld.shelf import shelf_text as text_of
from soleheld.spans import Span, point
from soleheld.staffs import Staff
from soleheld.surecounts import firmness, sure_count
from soleheld.voices import ChangedVoice, OwnVoice, SilentVoice, TrueVoice
from soleheld.words import is_name, is_number
from soleheld.worths import floor_of, is_large, is_less, minus, plus, product, quotient, read_worth, worth, worth_text

# In the order of the document. A name with no arguments is a constant.
MODULES = {
    "errors": {"CountError": None, "InvalidName": "value", "InvalidNumber": "value", "InvalidNames": "at", "InvalidLot": "",
               "InvalidRoll": "at", "InvalidEntry": "at", "InvalidText": "line, why", "BadRule": "line, what",
               "Spoiled": "ballot, why", "BadSizes": "number", "BadStaff": "bundle", "TooMany": "what, most",
               "Missing": None,
               "NoName": "word", "TooLate": None, "Ended": "", "Closed": "place"},
    "words": {"is_name": "value", "is_number": "value, least, most", "OWN": None},
    "worths": {"LIMIT": None, "worth": "top, bottom=1", "plus": "a, b", "minus": "a, b", "product": "a, b",
               "quotient": "a, b",
               "is_less": "a, b", "floor_of": "a", "is_large": "a", "worth_text": "a", "read_worth": "text"},
    "forms": {"Form": None, "One": "", "Ticks": "", "Points": "number", "Ranks": "", "Lists": "number",
              "read_form": "text"},
    "rules": {"Rule": None, "read_rule": "text", "write_expression": "expression"},
    "contests": {"Contest": "names, lot, rule"},
    "counts": {"top_label": "contest, marking, stands", "from_label": "mark, limit", "over_label": "first, second",
               "Count": "history, seats, end", "plain_count": "contest, roll"},
    "questions": {"split_block": "markings, labels", "Question": "number, parts"},
    "courses": {"Course": "contest, votes", "lead": "contest, roll"},
    "seals": {"Seal": None, "MadeSeal": "number", "WholeSeal": "", "FlatSeal": "", "OwnSeal": "function"},
    "books": {"heads_of": "place, entries, seal", "Closing": "place, number, last_head, milestones",
              "closing_of": "place, entries, seal", "clash_of": "place, first, second, seal",
              "sealed_text": "contest, paper",
              "slip_of": "contest, paper, seal", "road_pair": "signs", "Book": "contest, place, *, seal"},
    "staffs": {"Staff": "*lists"},
    "voices": {"Voice": None, "TrueVoice": "contest, hands", "SilentVoice": "", "ChangedVoice": "base, changes",
               "OwnVoice": "function"},
    "sheets": {"sheet_fault": "question, due, sizes, answer", "which_fault": "answer, size, many",
               "show_fault": "contest, slip, seal, answer", "parting": "first, second", "lone_ballot": "first, second"},
    "houses": {"Clash": "bundle, ballot, first, second", "House": "contest, bundles, staff, voices, *, seal, chooser=()"},
    "ghosts": {"ghosts": "house", "mixed_roll": "house, hands, group", "has_sizes": "course, roll, sizes"},
    "minutes": {"is_entry": "value", "minutes_text": "entries", "read_minutes": "text", "minutes_head": "entries, seal",
                "voices_off": "entries, staff", "fitting": "entries, contest, bundles, staff, *, seal, chooser=()",
                "replay": "entries, contest, bundles, staff, *, seal, chooser=()"},
    "branches": {"Branch": None, "branches": "contest, roll, *, changed=0, free=0, only=None",
                 "reach": "contest, roll, *, changed=0, free=0, only=None"},
    "margins": {"margin": "contest, roll, *, most=None, only=None", "least_group": "contest, holdings, staff"},
    "spans": {"Span": "low, high", "point": "value"},
    "surecounts": {"sure_count": "contest, roll, *, changed=0, free=0", "firmness": "contest, roll"},
    "draws": {"risk": "ballots, unlike, drawn", "least_draws": "ballots, unlike, limit", "draws": "ballots, drawn",
              "differing": "records, roll, draw", "needed": "contest, records, limit, *, quick=False"},
    "shelf": {"SHELF": None, "shelf_text": "word, seats=1", "shelf_rule": "word, seats=1"},
    "days": {"Day": "contest, *, seal, size=12"},
}
FORM = {"markings": "many", "written": "names, marking", "read": "names, text", "__str__": "", "__eq__": "other"}
VOICE = {"sheet": "question, bundle, due", "which": "question, bundle, part, sub", "show": "bundle, ballot"}
METHODS = {
    "One": FORM, "Ticks": FORM, "Points": FORM, "Ranks": FORM, "Lists": FORM,
    "Rule": {"cost": "many", "__str__": "", "__eq__": "other", "__repr__": ""},
    "Contest": {"markings": "", "number_of": "value", "place_of": "number", "written": "marking", "read": "text",
                "check_roll": "roll", "__eq__": "other", "__repr__": ""},
    "Count": {"__eq__": "other", "__repr__": ""},
    "Question": {"answer_of": "numbers", "due": "sizes", "__eq__": "other", "__repr__": ""},
    "Course": {"blocks": "", "sizes": "", "take": "answer", "answers": "", "so_far": "", "sizes_of": "roll", "twin": "",
               "__eq__": "other", "__repr__": ""},
    "MadeSeal": {"of": "text"}, "WholeSeal": {"of": "text"}, "FlatSeal": {"of": "text"}, "OwnSeal": {"of": "text"},
    "Closing": {"stretch": "entries, seal", "__eq__": "other"},
    "Book": {"cast": "salt, text", "cast_all": "pairs", "close": "", "entries": "", "papers": "", "__contains__": "entry",
             "__len__": "", "__repr__": ""},
    "Staff": {"over": "bundle", "persons": "", "bundles_of": "person", "sole": "group", "groups": "most", "is_safe": "most",
              "__len__": "", "__eq__": "other", "__contains__": "name"},
    "TrueVoice": VOICE, "SilentVoice": VOICE, "ChangedVoice": VOICE, "OwnVoice": VOICE,
    "Clash": {"__eq__": "other"},
    "House": {"turn": "", "run": "", "struck": "", "taken": "bundle", "blocks": "", "course": "", "entries": "", "twin": "",
              "__repr__": ""},
    "Branch": {"__eq__": "other"},
    "Span": {"__add__": "other", "__sub__": "other", "__mul__": "other", "over": "other", "floor": "", "least": "other",
             "greatest": "other", "below": "other", "at_most": "other", "same": "other", "truth": "", "single": "",
             "__contains__": None, "__eq__": "other", "__str__": ""},
    "Day": {"cast": "place, salt, text", "close": "", "places": "", "closings": "", "hands": "", "bundles": "",
            "house": "staff, voices, *, chooser=()"},
}
PROPERTIES = {"Course": ("question", "ended"), "Book": ("head", "closed"),
              "House": ("question", "ended", "result", "openings"),
              "Day": ("closed",)}


def modules():
    return {name: importlib.import_module("soleheld." + name) for name in MODULES}


def arguments(call):
    """The arguments of a call as the document writes them, without that of the object."""
    parameters = [one for one in inspect.signature(call).parameters.values() if one.name != "self"]
    return str(inspect.Signature(parameters))[1:-1]


class Names(unittest.TestCase):
    def test_where_they_are_defined(self):
        for module, names in MODULES.items():
            for name, written in names.items():
                found = getattr(modules()[module], name)
                if callable(found):
                    self.assertEqual(found.__module__, "soleheld." + module, name)
                if written is not None:
                    self.assertEqual(arguments(found), written, name)

    def test_methods_stand_in_their_own_classes(self):
        for module, names in MODULES.items():
            for name in names:
                for method, written in METHODS.get(name, {}).items():
                    found = vars(getattr(modules()[module], name))[method]
                    self.assertTrue(inspect.isfunction(found), (name, method))
                    if written is not None:
                        self.assertEqual(arguments(found), written, (name, method))
                for word in PROPERTIES.get(name, ()):
                    self.assertIsInstance(vars(getattr(modules()[module], name))[word], property)

    def test_no_other_public_method(self):
        for module, names in MODULES.items():
            for name in names:
                found = getattr(modules()[module], name)
                if name in METHODS and inspect.isclass(found):
                    functions = {word for word, item in vars(found).items() if inspect.isfunction(item)}
                    public = {word for word in functions if not word.startswith("_")}
                    self.assertEqual(public, {word for word in METHODS[name] if not word.startswith("_")}, name)

    def test_each_module_needs_only_those_above(self):
        folder = pathlib.Path(soleheld.__file__).parent
        needed = {}
        for path in folder.glob("*.py"):
            tree = ast.parse(path.read_text(encoding="utf-8"))
            needed[path.stem] = {node.module.partition(".")[2] for node in ast.walk(tree)
                                 if isinstance(node, ast.ImportFrom) and node.module.startswith("soleheld.")}
        for name in list(needed):
            found, ahead = set(), [name]
            while ahead:
                for other in needed[ahead.pop()] - found:
                    found.add(other)
                    ahead.append(other)
            if name in MODULES:
                order = list(MODULES)
                self.assertLessEqual(found & set(order), set(order[:order.index(name)]), name)

    def test_error_classes(self):
        direct = {"CountError": ValueError, "Missing": LookupError, "TooLate": RuntimeError, "NoName": errors.Missing,
                  "Ended": errors.TooLate, "Closed": errors.TooLate}
        for name, written in MODULES["errors"].items():
            kind = getattr(errors, name)
            self.assertEqual(kind.__bases__, (direct.get(name, errors.CountError),))
            if written is not None:
                words = written.split(", ") if written else []
                for made in (kind(*words), kind(**{word: word for word in words})):
                    self.assertEqual((vars(made)), {**{word: word for word in words}, "code": name})


class Calls(unittest.TestCase):
    """Each call by place and by name tells the same."""

    def setUp(self):
        self.rule = read_rule(text=shelf_text("rounds"))
        self.contest = Contest(names=["ann", "bo", "cy"], lot=["ann", "bo", "cy"], rule=self.rule)
        self.roll = [self.contest.read(text=text) for text in ("ann > bo", "bo", "cy > bo")]
        self.papers = [("hall", number, number, marking) for number, marking in enumerate(self.roll)]
        self.seal = WholeSeal()
        self.slips = tuple(slip_of(self.contest, paper, self.seal) for paper in self.papers)
        self.question = Course(self.contest, 3).question

    def both(self, call, *told, **values):
        """The result of a call by name; that by place is equal. Behind a star all are by name anyhow."""
        parameters = inspect.signature(call).parameters
        only = {name for name, one in parameters.items() if one.kind is inspect.Parameter.KEYWORD_ONLY}
        by_place = call(*[value for name, value in values.items() if name not in only],
                        **{name: value for name, value in values.items() if name in only})
        by_name = call(**dict(reversed(list(values.items()))))
        if told:
            self.assertEqual(by_name, told[0])
            self.assertEqual(by_place, told[0])
        self.assertIs(type(by_name), type(by_place))
        return by_name

    def test_words_and_worths(self):
        self.both(is_name, True, value="ann")
        self.both(is_number, True, value=3, least=1, most=4)
        self.both(worth, (1, 2), top=2, bottom=4)
        self.both(plus, (3, 4), a=(1, 2), b=(1, 4))
        self.both(minus, (1, 4), a=(1, 2), b=(1, 4))
        self.both(product, (1, 8), a=(1, 2), b=(1, 4))
        self.both(quotient, (2, 1), a=(1, 2), b=(1, 4))
        self.both(is_less, False, a=(1, 2), b=(1, 4))
        self.both(floor_of, -1, a=(-1, 2))
        self.both(is_large, False, a=(-1, 2))
        self.both(worth_text, "-1/2", a=(-1, 2))
        self.both(read_worth, (-1, 2), text="-1/2")

    def test_forms_and_rules(self):
        self.both(read_form, Points(2), text="points 2")
        self.both(Lists, number=2)
        self.both(Points, number=2)
        for form, marking, text in ((One(), (0, 1, 0), "bo"), (Ticks(), (1, 1, 0), "ann bo"),
                                    (Points(2), (1, 0, 2), "ann 1 cy 2"),
                                    (Ranks(), (2, 3, 0), "bo > ann"), (Lists(2), (1, 0, 1), "ann cy")):
            names = ("ann", "bo", "cy")
            self.assertIn(marking, self.both(form.markings, many=3))
            self.both(form.written, text, names=names, marking=marking)
            self.both(form.read, marking, names=names, text=text)
        self.both(read_rule, self.rule, text=shelf_text("rounds"))
        self.both(write_expression, "1 + x", expression=("+", ("number", 1), ("name", "x")))
        self.both(self.rule.cost, self.rule.cost(3), many=3)

    def test_contests_and_counts(self):
        contest = self.contest
        self.both(Contest, contest, names=["ann", "bo", "cy"], lot=["ann", "bo", "cy"], rule=self.rule)
        self.assertEqual(contest.markings()[self.both(contest.number_of, value=(0, 3, 0))], (0, 3, 0))
        self.both(contest.place_of, 2, number=2)
        self.both(contest.written, "bo", marking=(0, 3, 0))
        self.both(contest.read, (0, 3, 0), text="bo")
        self.both(contest.check_roll, None, roll=self.roll)
        self.both(top_label, 1, contest=contest, marking=(2, 3, 0), stands=[True] * 3)
        self.both(from_label, 1, mark=2, limit=(3, 2))
        self.both(over_label, -1, first=1, second=2)
        self.both(Count, Count((), (1,), "whole"), history=[], seats=[1], end="whole")
        self.both(plain_count, plain_count(contest, self.roll), contest=contest, roll=self.roll)

    def test_questions_and_courses(self):
        contest = self.contest
        self.both(split_block, [(0, (2,)), (1, (1,))], markings=(1, 2), labels=[1, 0])
        self.both(Question, self.question, number=0, parts=list(self.question.parts))
        self.both(self.question.answer_of, ((0, 1, 1, 1),), numbers=[contest.number_of(marking) for marking in self.roll])
        self.both(self.question.due, (0,), sizes=[3])
        self.both(lead, lead(contest, self.roll), contest=contest, roll=self.roll)
        for by_name in (False, True):
            course = Course(contest=contest, votes=3)
            self.assertIsNone(course.take(answer=((0, 1, 1, 1),)) if by_name else course.take(((0, 1, 1, 1),)))
            self.both(course.sizes_of, course.sizes(), roll=self.roll)

    def test_seals_and_books(self):
        for seal in (MadeSeal(number=100), WholeSeal(), FlatSeal(), OwnSeal(function=lambda text: text)):
            self.both(seal.of, seal.of("a"), text="a")
        contest, seal = self.contest, self.seal
        self.both(heads_of, ["a", "1:a/x"], place="a", entries=["x"], seal=seal)
        closing = self.both(closing_of, Closing("a", 1, "1:a/x", ()), place="a", entries=["x"], seal=seal)
        self.both(Closing, closing, place="a", number=1, last_head="1:a/x", milestones=[])
        self.both(closing.stretch, (0, 1), entries=["y"], seal=seal)
        self.both(clash_of, ("1:x/p", "1:x/q"), place="a", first=["p"], second=["q"], seal=FlatSeal())
        self.both(sealed_text, "hall/1/1/bo", contest=contest, paper=self.papers[1])
        self.both(slip_of, ("hall", 1, "hall/1/1/bo"), contest=contest, paper=self.papers[1], seal=seal)
        self.both(road_pair, (0, 1), signs=[False])
        book = self.both(Book, contest=contest, place="hall", seal=seal)
        self.assertEqual(book.cast(text="bo", salt=1), "b:hall/0/1/bo")
        self.assertEqual(book.cast_all(pairs=[(2, "cy")]), ["b:hall/1/2/cy"])

    def test_staffs_and_voices(self):
        staff = Staff(["p", "q"], ["q"])
        self.both(staff.over, ("q",), bundle=1)
        self.both(staff.bundles_of, [0, 1], person="q")
        self.both(staff.sole, [1], group=["q"])
        self.assertEqual([list(staff.groups(most=1)), list(staff.groups(1))], [[(), ("p",), ("q",)]] * 2)
        self.both(staff.is_safe, False, most=1)
        truth = self.both(TrueVoice, contest=self.contest, hands=[self.papers])
        silent = SilentVoice()
        changed = self.both(ChangedVoice, base=truth, changes={})
        own = self.both(OwnVoice, function=lambda key, question: key[0])
        for voice, sheet, which, show in ((truth, ((0, 1, 1, 1),), (1,), (1, "bo")),
                                          (changed, ((0, 1, 1, 1),), (1,), (1, "bo")),
                                          (silent, None, None, None), (own, "sheet", "which", "show")):
            self.both(voice.sheet, sheet, question=self.question, bundle=0, due=(0,))
            self.both(voice.which, which, question=self.question, bundle=0, part=0, sub=2)
            self.both(voice.show, show, bundle=0, ballot=1)

    def test_sheets(self):
        self.both(sheet_fault, "sum", question=self.question, due=(0,), sizes=[3], answer=((0, 0, 0, 0),))
        self.both(which_fault, "rows", answer=(3,), size=1, many=3)
        self.both(show_fault, "seal", contest=self.contest, slip=self.slips[0], seal=self.seal, answer=(1, "bo"))
        self.both(parting, (0, 1), first=((1, 2),), second=((1, 3),))
        self.both(lone_ballot, 1, first=(1, 2), second=(2, 3))

    def test_houses_ghosts_minutes(self):
        contest, seal, staff = self.contest, self.seal, Staff(["p"])
        self.both(Clash, Clash(0, 1, "x", "y"), bundle=0, ballot=1, first="x", second="y")
        values = {"contest": contest, "bundles": [self.slips], "staff": staff}
        voices = {"p": TrueVoice(contest, [self.papers])}
        house = self.both(House, **values, voices=voices, seal=seal, chooser=())
        result = house.run()
        self.assertEqual(self.both(house.taken, bundle=0), house.taken(0))
        self.assertEqual(len(self.both(ghosts, house=house)[0]), 3)
        self.both(mixed_roll, self.roll, house=house, hands=[self.papers], group=[])
        self.both(has_sizes, True, course=house.course(), roll=self.roll, sizes=house.taken(0))
        entries = house.entries()
        self.both(is_entry, True, value=entries[0])
        text = self.both(minutes_text, entries=entries)
        self.both(read_minutes, entries, text=text)
        self.both(minutes_head, minutes_head(entries, seal), entries=entries, seal=seal)
        self.both(voices_off, entries=entries, staff=staff)
        self.both(fitting, len(entries), entries=entries, **values, seal=seal, chooser=())
        self.both(replay, ("fits", result), entries=entries, **values, seal=seal, chooser=())

    def test_branches_and_margins(self):
        contest, roll = self.contest, self.roll
        values = {"contest": contest, "roll": roll, "changed": 1, "free": 0, "only": [2]}
        self.assertEqual(list(branches(**values)), list(branches(contest, roll, changed=1, free=0, only=[2])))
        self.both(reach, **values)
        self.both(margin, contest=contest, roll=roll, most=1, only=[2])
        self.both(least_group, contest=contest, holdings=[roll], staff=Staff(["p"]))

    def test_spans_and_sure_counts(self):
        contest, roll = self.contest, self.roll
        span = self.both(Span, Span((1, 1), (2, 1)), low=(1, 1), high=(2, 1))
        other = self.both(point, Span((2, 1), (2, 1)), value=(2, 1))
        for call, told in ((span.over, Span((1, 2), (1, 1))), (span.least, span), (span.greatest, other),
                           (span.below, None),
                           (span.at_most, True), (span.same, None)):
            self.both(call, told, other=other)
        self.both(sure_count, contest=contest, roll=roll, changed=0, free=0)
        self.both(firmness, contest=contest, roll=roll)

    def test_draws(self):
        self.both(risk, (1, 2), ballots=2, unlike=1, drawn=1)
        self.both(least_draws, 1, ballots=2, unlike=1, limit=(1, 2))
        self.assertEqual([list(draws(ballots=2, drawn=1)), list(draws(2, 1))], [[(0,), (1,)]] * 2)
        self.both(differing, [2], records=self.roll, roll=self.roll[:2] + self.roll[:1], draw=(1, 2))
        for quick in (False, True):
            self.both(needed, contest=self.contest, records=self.roll, limit=(1, 2), quick=quick)

    def test_shelf_and_days(self):
        self.both(text_of, shelf_text("pairs", 2), word="pairs", seats=2)
        self.both(shelf_rule, read_rule(shelf_text("pairs", 2)), word="pairs", seats=2)
        day = self.both(Day, contest=self.contest, seal=self.seal, size=2)
        self.assertEqual(day.cast(text="bo", salt=1, place="hall"), "b:hall/0/1/bo")
        self.assertEqual(day.cast("hall", 1, "bo"), "b:hall/1/1/bo")
        voices = {"p": TrueVoice(self.contest, day.hands())}
        house = self.both(day.house, staff=Staff(["p"]), voices=voices, chooser=())
        self.assertEqual(house.run().seats, (1,))
