"""Labels, counts, and the plain count of a roll."""

import unittest

from helpers import SHELF, contest_of, roll_of, rule_text, shelf_text
from reference import Maker, Plain
from soleheld.contests import Contest
from soleheld.counts import Count, from_label, over_label, plain_count, top_label
from soleheld.errors import InvalidRoll, TooMany
from soleheld.forms import Lists, One, Points, Ranks, Ticks
from soleheld.rules import read_rule
from soleheld.worths import worth


def done(*body, ballots=(), lot=None, **head):
    """The count of a rule with these statements."""
    contest = contest_of(rule_text(*body, **head), lot=lot)
    return plain_count(contest, roll_of(contest, *ballots))


def told(*body, **more):
    """The worths that come of the tells of such a count."""
    return [item[1] for item in done(*body, **more).history if item[0] == "tell"]


class Labels(unittest.TestCase):
    def setUp(self):
        self.contest = contest_of(rule_text(form="points 2"), lot=("cy", "ann", "bo"))

    def test_top(self):
        for marking, stands, label in (((2, 1, 0), [True, True, True], 0), ((2, 1, 0), [False, True, True], 1),
                                       ((2, 1, 0), [False, False, True], -1), ((0, 0, 0), [True, True, True], -1),
                                       ((1, 1, 1), [True, True, True], 2), ((1, 1, 1), [True, True, False], 0),
                                       ((1, 2, 2), [True, True, True], 2), ((1, 2, 2), [True, True, False], 1),
                                       ((1, 1, 0), [True, True, True], 0), ((2, 2, 2), [False, False, False], -1)):
            self.assertEqual(top_label(self.contest, marking, stands), label)
        self.assertEqual(top_label(contest=self.contest, stands=[True] * 3, marking=(0, 1, 0)), 1)

    def test_from(self):
        for mark, limit, label in ((1, (1, 1), 1), (0, (1, 1), 0), (2, (1, 1), 1), (0, (0, 1), 1), (0, (-5, 2), 1),
                                   (1, (3, 2), 0), (2, (3, 2), 1), (0, (1, 10), 0)):
            self.assertEqual(from_label(mark, limit), label)
        self.assertEqual(from_label(limit=(2, 1), mark=1), 0)

    def test_over(self):
        for first, second, label in ((2, 1, 1), (1, 1, 0), (0, 1, -1), (0, 0, 0), (5, 0, 1)):
            self.assertEqual(over_label(first, second), label)
        self.assertEqual(over_label(second=2, first=1), -1)


class Counts(unittest.TestCase):
    HISTORY = (("tally", "score", ((1, 1), (0, 1))), ("sum", "n", (-1, 2)), ("seat", 1), ("tell", (3, 1)))

    def test_attributes(self):
        for history, seats in ((self.HISTORY, (1,)), (list(self.HISTORY), [1])):
            count = Count(history, seats, "whole")
            self.assertEqual((count.history, count.seats, count.end), (self.HISTORY, (1,), "whole"))
            self.assertEqual((type(count.history), type(count.seats)), (tuple, tuple))
        self.assertEqual(Count(end="digits", seats=(), history=()).end, "digits")

    def test_lists_that_are_changed_afterwards(self):
        history, seats = list(self.HISTORY), [1]
        count = Count(history, seats, "whole")
        history.clear()
        seats.append(0)
        self.assertEqual((count.history, count.seats), (self.HISTORY, (1,)))

    def test_equal(self):
        count = Count(self.HISTORY, (1,), "whole")
        self.assertTrue(count == Count(list(self.HISTORY), [1], "whole"))
        for other in (Count(self.HISTORY[1:], (1,), "whole"), Count(self.HISTORY, (1, 1), "whole"),
                      Count(self.HISTORY, (1,), "weighs"), None, (1,), (self.HISTORY, (1,), "whole"), One()):
            self.assertFalse(count == other)
            self.assertTrue(count != other)

    def test_repr(self):
        self.assertEqual(repr(Count((), (), "digits")), "Count(0 seats, digits)")
        self.assertEqual(repr(Count((), (2,), "whole")), "Count(1 seats, whole)")
        self.assertEqual(repr(Count((), [2, 0, 2], "open")), "Count(3 seats, open)")


class Expressions(unittest.TestCase):
    def check(self, pairs, **head):
        texts = [text for text, _ in pairs]
        setting = ["let n be 7", "let x be 0 - 1 / 2", "let score[0] be 5", "let score[1] be 6", "let score[2] be 9"]
        found = told(*setting, *[f"tell {text}" for text in texts], ballots=("ann", "-"), lot=("cy", "ann", "bo"), **head)
        self.assertEqual(dict(zip(texts, found)), {text: worth(*value) for text, value in pairs})

    def test_words(self):
        self.check([("0", (0,)), ("999999999", (999999999,)), ("n", (7,)), ("x", (-1, 2)), ("votes", (2,)), ("names", (3,)),
                    ("seats", (4,)), ("seated", (0,))], seats=4)

    def test_row_variables_and_the_lot(self):
        self.check([("score[0]", (5,)), ("score[2]", (9,)), ("score[3]", (0,)), ("score[0 - 1]", (0,)), ("score[1 / 2]", (0,)),
                    ("score[n]", (0,)), ("score[4 / 2]", (9,)), ("free[0]", (0,)), ("lot[0]", (1,)), ("lot[1]", (2,)),
                    ("lot[2]", (0,)), ("lot[3]", (0,)), ("lot[x]", (0,)), ("lot[0 - 2]", (0,))])

    def test_arithmetic(self):
        self.check([("n + x", (13, 2)), ("n - x", (15, 2)), ("x - n", (-15, 2)), ("n * x", (-7, 2)), ("n / x", (-14,)),
                    ("x / n", (-1, 14)), ("n / 0", (0,)), ("0 / 0", (0,)), ("n / 7", (1,)), ("2 / 4", (1, 2)),
                    ("n - 2 - 3", (2,)), ("n / 2 / 2", (7, 4))])

    def test_floor_min_max(self):
        self.check([("floor(x)", (-1,)), ("floor(n / 2)", (3,)), ("floor(n)", (7,)), ("floor(0 - n / 2)", (-4,)),
                    ("min(n, x)", (-1, 2)), ("min(x, n)", (-1, 2)), ("max(n, x)", (7,)), ("max(x, n)", (7,)),
                    ("min(n, 7)", (7,)), ("max(1 / 3, 1 / 2)", (1, 2))])

    def test_comparisons(self):
        self.check([("x < n", (1,)), ("n < x", (0,)), ("n < n", (0,)), ("x <= n", (1,)), ("n <= x", (0,)), ("n <= n", (1,)),
                    ("n = n", (1,)), ("n = x", (0,)), ("1 / 2 = 2 / 4", (1,)), ("1 / 3 < 1 / 2", (1,)), ("x < 0", (1,))])

    def test_and_or_not(self):
        self.check([("n and x", (1,)), ("n and 0", (0,)), ("0 and n", (0,)), ("0 and 0", (0,)), ("n or 0", (1,)), ("0 or x", (1,)),
                    ("n or x", (1,)), ("0 or 0", (0,)), ("not n", (0,)), ("not 0", (1,)), ("not x", (0,)), ("not not n", (1,))])

    def test_all_is_zero_at_first(self):
        self.assertEqual(told("tell n", "tell x", "tell score[0]", "tell free[2]"), [(0, 1)] * 4)

    def test_no_ballots(self):
        self.assertEqual(told("tell votes"), [(0, 1)])


class Statements(unittest.TestCase):
    def test_let(self):
        self.assertEqual(told("let n be 2", "let x be n + 1", "let n be x * x", "tell n", "tell x"), [(9, 1), (3, 1)])

    def test_let_of_a_row_variable(self):
        body = ["let score[1] be 4", "let score[3] be 9", "let score[0 - 1] be 9", "let score[1 / 2] be 9",
                "let score[score[1] / 2] be 8", "each a", "tell score[a]", "tell free[a]", "end"]
        self.assertEqual(told(*body), [worth(value) for value in (0, 0, 4, 0, 8, 0)])

    def test_if(self):
        for test, found in (("0", 2), ("1", 1), ("0 - 1", 1), ("1 / 2", 1), ("n", 2), ("not n", 1)):
            self.assertEqual(told(f"if {test}", "tell 1", "else", "tell 2", "end"), [(found, 1)])
            self.assertEqual(told(f"if {test}", "tell 1", "end"), [(1, 1)] if found == 1 else [])
            self.assertEqual(told(f"if {test}", "else", "tell 2", "end"), [(2, 1)] if found == 2 else [])
        self.assertEqual(told("if 1", "if 0", "tell 1", "else", "tell 2", "end", "tell 3", "else", "tell 4", "end", "tell 5"),
                         [(2, 1), (3, 1), (5, 1)])

    def test_each(self):
        self.assertEqual(told("each a", "each b", "tell 10 * a + b", "end", "end", "each b", "tell b", "end"),
                         [worth(value) for value in (0, 1, 2, 10, 11, 12, 20, 21, 22, 0, 1, 2)])
        self.assertEqual(told("each a", "end", "tell 1"), [(1, 1)])

    def test_times(self):
        self.assertEqual(told("times 4", "let n be n + 1", "tell n", "end"), [(1, 1), (2, 1), (3, 1), (4, 1)])
        self.assertEqual(told("times names", "let n be n + 1", "end", "tell n"), [(3, 1)])
        self.assertEqual(told("times 20", "times 20", "let n be n + 1", "end", "end", "tell n"), [(400, 1)])
        self.assertEqual(told("times 1", "tell 1", "end", "times 20", "end"), [(1, 1)])

    def test_leave(self):
        body = ["times 5", "let n be n + 1", "tell n", "if n = 2", "leave", "end", "end", "tell 9"]
        self.assertEqual(told(*body), [(1, 1), (2, 1), (9, 1)])

    def test_leave_from_within_each(self):
        body = ["times 5", "each a", "each b", "tell b", "if b = 1", "leave", "end", "end", "tell 7", "end", "tell 8", "end",
                "tell 9"]
        self.assertEqual(told(*body), [(0, 1), (1, 1), (9, 1)])

    def test_leave_ends_the_innermost_times_alone(self):
        body = ["times 3", "times 3", "tell 1", "leave", "tell 2", "end", "tell 3", "end"]
        self.assertEqual(told(*body), [(1, 1), (3, 1)] * 3)
        body = ["each a", "times 2", "tell a", "leave", "end", "end"]
        self.assertEqual(told(*body), [(0, 1), (1, 1), (2, 1)])
        body = ["times 2", "if 1", "times names", "if 1", "leave", "end", "tell 1", "end", "tell 2", "leave", "end", "tell 3",
                "end", "tell 4"]
        self.assertEqual(told(*body), [(2, 1), (4, 1)])

    def test_seat(self):
        body = ["seat 1", "tell seated", "seat 3", "seat 0 - 1", "seat 1 / 2", "tell seated", "seat 1", "seat 0", "seat 2",
                "tell seated"]
        count = done(*body, seats=3)
        self.assertEqual(count.seats, (1, 1, 0))
        self.assertEqual(count.history, (("seat", 1), ("tell", (1, 1)), ("tell", (1, 1)), ("seat", 1), ("seat", 0),
                                         ("tell", (3, 1))))
        for seats in range(1, 6):
            self.assertEqual(done("times 9", "seat 2", "end", seats=seats).seats, (2,) * seats)

    def test_tell(self):
        self.assertEqual(done("tell 1 / 2", "tell 0 - 4").history, (("tell", (1, 2)), ("tell", (-4, 1))))

    def test_nothing_at_all(self):
        self.assertEqual(done(), Count((), (), "whole"))
        self.assertEqual(done(ballots=("ann", "bo")), Count((), (), "whole"))


class Asks(unittest.TestCase):
    RANKED = ("ann > bo", "bo", "cy > ann > bo", "-")

    def labels(self, *asks, ballots, **head):
        """The label of each ballot, one by one: each is alone in a roll."""
        found = []
        for ballot in ballots:
            history = done("let free[0] be 1", "let free[1] be 0 - 1", "let score[2] be 1 / 2", *asks, "sum n",
                           ballots=(ballot,), **head).history
            found.append(history[-1][2])
        return [value[0] for value in found]

    def test_at_first(self):
        self.assertEqual(self.labels(ballots=self.RANKED), [-2, -2, -2, -2])

    def test_top(self):
        self.assertEqual(self.labels("ask top free", ballots=self.RANKED), [0, 1, 0, -1])
        self.assertEqual(self.labels("ask top score", ballots=self.RANKED), [-1, -1, 2, -1])

    def test_top_of_equal_marks(self):
        ballots = ("ann bo cy", "ann bo", "bo cy", "cy", "ann cy")
        self.assertEqual(self.labels("ask top free", ballots=ballots, form="ticks"), [0, 0, 1, -1, 0])
        self.assertEqual(self.labels("ask top free", ballots=ballots, form="ticks", lot=("cy", "bo", "ann")), [1, 1, 1, -1, 0])

    def test_top_of_lists(self):
        ballots = ("ann", "ann cy", "bo", "-")
        self.assertEqual(self.labels("ask top free", ballots=ballots, form="lists 2"), [0, 0, 1, -1])
        self.assertEqual(self.labels("ask top score", ballots=ballots, form="lists 2"), [-1, 2, -1, -1])

    def test_mark(self):
        self.assertEqual(self.labels("ask mark 0", ballots=self.RANKED), [3, 0, 2, 0])
        self.assertEqual(self.labels("ask mark 2 / 2", ballots=self.RANKED), [2, 3, 1, 0])
        for index in ("3", "1 / 2", "0 - 1"):
            self.assertEqual(self.labels(f"ask mark {index}", ballots=self.RANKED), [0, 0, 0, 0])

    def test_mark_from(self):
        self.assertEqual(self.labels("ask mark 0 from 2", ballots=self.RANKED), [1, 0, 1, 0])
        self.assertEqual(self.labels("ask mark 0 from 5 / 2", ballots=self.RANKED), [1, 0, 0, 0])
        self.assertEqual(self.labels("ask mark 0 from 0", ballots=self.RANKED), [1, 1, 1, 1])
        self.assertEqual(self.labels("ask mark 3 from 0", ballots=self.RANKED), [1, 1, 1, 1])
        self.assertEqual(self.labels("ask mark 3 from 1", ballots=self.RANKED), [0, 0, 0, 0])
        self.assertEqual(self.labels("ask mark 3 from 0 - 1", ballots=self.RANKED), [1, 1, 1, 1])

    def test_over(self):
        self.assertEqual(self.labels("ask over 0 1", ballots=self.RANKED), [1, -1, 1, 0])
        self.assertEqual(self.labels("ask over 1 0", ballots=self.RANKED), [-1, 1, -1, 0])
        self.assertEqual(self.labels("ask over 0 0", ballots=self.RANKED), [0, 0, 0, 0])
        self.assertEqual(self.labels("ask over 0 7", ballots=self.RANKED), [1, 0, 1, 0])
        self.assertEqual(self.labels("ask over 1 / 2 0", ballots=self.RANKED), [-1, 0, -1, 0])

    def test_where(self):
        self.assertEqual(self.labels("ask top free", "ask mark 1 where 0", ballots=self.RANKED), [2, 1, 1, -1])
        self.assertEqual(self.labels("ask top free", "ask top score where 0", ballots=self.RANKED), [-1, 1, 2, -1])
        self.assertEqual(self.labels("ask top free", "ask over 0 1 where 0 - 1", ballots=self.RANKED), [0, 1, 0, 0])
        self.assertEqual(self.labels("ask mark 0 where 0 - 2", ballots=self.RANKED), [3, 0, 2, 0])
        for where in ("7", "1 / 2", "0 - 1 / 2", "999999999"):
            self.assertEqual(self.labels("ask mark 0", f"ask mark 1 where {where}", ballots=self.RANKED), [3, 0, 2, 0])
        self.assertEqual(self.labels("ask mark 0", "ask mark 1 from 1 where 6 / 2", ballots=self.RANKED), [1, 0, 2, 0])


class Tallies(unittest.TestCase):
    BALLOTS = ("ann", "ann", "bo", "-", "ann", "cy")
    TOP = ("each a", "let free[a] be 1", "end", "ask top free")

    def test_tally(self):
        count = done(*self.TOP, "tally score", "each a", "tell score[a]", "end", ballots=self.BALLOTS, form="one")
        self.assertEqual(count.history, (("tally", "score", ((3, 1), (1, 1), (1, 1))), ("tell", (3, 1)), ("tell", (1, 1)),
                                         ("tell", (1, 1))))

    def test_other_labels_are_not_counted(self):
        nothing = ("tally", "score", ((0, 1), (0, 1), (0, 1)))
        self.assertEqual(done("let score[0] be 5", "tally score", ballots=self.BALLOTS, form="one").history, (nothing,))
        count = done("ask mark 0", "tally score", ballots=("ann", "bo > ann", "cy > bo > ann", "-"))
        self.assertEqual(count.history, (("tally", "score", ((1, 1), (1, 1), (1, 1))),))
        self.assertEqual(done("tally score").history, (nothing,))

    def test_sum(self):
        self.assertEqual(done("sum n", "tell n", ballots=self.BALLOTS, form="one").history,
                         (("sum", "n", (-12, 1)), ("tell", (-12, 1))))
        self.assertEqual(done("ask mark 0", "sum x", ballots=("ann", "bo > ann", "-")).history, (("sum", "x", (5, 1)),))
        self.assertEqual(done("sum n").history, (("sum", "n", (0, 1)),))

    def test_weigh(self):
        body = (*self.TOP, "weigh 0 by 1 / 3", "weigh 0 - 1 by 1 / 2", "weigh 1 by 2", "weigh 2 by 0 - 1", "tally score", "sum n")
        count = done(*body, ballots=self.BALLOTS, form="one")
        self.assertEqual(count.history, (("tally", "score", ((1, 1), (1, 1), (0, 1))), ("sum", "n", (1, 2))))
        body = (*self.TOP, "weigh 0 by 2 / 3", "weigh 0 by 1 / 2", "weigh 7 by 0", "weigh 1 / 2 by 0", "tally score")
        count = done(*body, ballots=self.BALLOTS, form="one")
        self.assertEqual(count.history, (("tally", "score", ((1, 1), (1, 1), (1, 1))),))

    def test_weights_stay_with_their_ballots(self):
        body = (*self.TOP, "weigh 0 by 1 / 4", "ask mark 1", "sum n")
        self.assertEqual(done(*body, ballots=("ann > bo", "bo")).history, (("sum", "n", (7, 2)),))

    def test_a_weigh_without_a_label_yet(self):
        self.assertEqual(done("weigh 0 - 2 by 1 / 2", "sum n", ballots=("ann", "bo")).history, (("sum", "n", (-2, 1)),))

    def test_history(self):
        body = (*self.TOP, "tally score", "sum n", "seat 1", "seat 9", "seat 0", "tell 4", "let n be 3", "tally free")
        count = done(*body, ballots=("ann",), form="one")
        tally = ((1, 1), (0, 1), (0, 1))
        self.assertEqual(count.history, (("tally", "score", tally), ("sum", "n", (0, 1)), ("seat", 1), ("tell", (4, 1)),
                                         ("tally", "free", tally)))


class Ends(unittest.TestCase):
    LIMIT = ("let n be 100000", "times 3", "let n be n * n", "end", "let x be n", "times 4", "let x be x * n", "end")

    def test_whole(self):
        self.assertEqual(done("tell 1").end, "whole")

    def test_digits_at_the_limit_and_just_below(self):
        # x is 10 ** 200 behind its last product, which is not done any more.
        count = done(*self.LIMIT, "tell x")
        self.assertEqual((count.end, count.history), ("digits", ()))
        body = self.LIMIT[:-2] + ("end", "times 3", "let x be x * n", "end")
        almost = (*body, "let n be n / 10", "let x be x * n")
        self.assertEqual(told(*almost, "tell x"), [(10 ** 199, 1)])
        least = (*almost, "let n be x * 9 + (x - 1)")
        self.assertEqual(told(*least, "tell n"), [(10 ** 200 - 1, 1)])
        self.assertEqual(told(*least, "tell 0 - n", "tell 1 / n"), [(1 - 10 ** 200, 1), (1, 10 ** 200 - 1)])
        for line in ("let n be n + 1", "let n be 0 - n - 1", "let n be n + 1 - 1", "tell x * 10", "tell 1 / x / 10",
                     "tell 0 - 1 / (n + 1)", "let n be 0 and n + 1", "let n be n + 1 - n", "if n + 1", "seat n + 1",
                     "let score[7] be n + 1", "let score[n + 1] be 1", "weigh n + 1 by 1", "weigh 7 by n + 1",
                     "ask mark n + 1", "ask mark 0 from n + 1", "ask over 0 n + 1", "ask top free where n + 1",
                     "tell 0 * (n + 1)", "tell min(0, n + 1)", "tell floor(n + 1)", "tell not n + 1"):
            rest = ["end"] if line.startswith("if") else []
            count = done("seat 1", *least, "tell 5", line, *rest, "tell 6", "seat 0", seats=2)
            self.assertEqual((count.end, count.seats), ("digits", (1,)), line)
            self.assertEqual(count.history, (("seat", 1), ("tell", (5, 1))), line)

    def test_only_operators_are_looked_at(self):
        self.assertEqual(done("tell min(1, 2)", "tell 999999999 = 0").end, "whole")

    def test_digits_of_tallies_and_sums(self):
        small = ("let n be 1 / 100000", "times 3", "let n be n * n", "end")
        halves = ("ask mark 0", "weigh 3 by n", "weigh 3 by n", "weigh 3 by n", "weigh 3 by n")
        below = (*small, *halves, "weigh 3 by n * 10", "let n be 5")
        count = done(*below, "sum x", ballots=("ann", "ann", "bo"))
        self.assertEqual((count.history, count.end), ((("sum", "x", worth(6, 10 ** 199)),), "whole"))
        at_limit = (*small, *halves, "weigh 3 by n", "let n be 5", "tell 1", "sum n", "tell n")
        self.assertEqual(done(*at_limit, ballots=("ann", "bo")).history, (("tell", (1, 1)),))
        self.assertEqual(done(*at_limit, ballots=("ann", "bo")).end, "digits")

    def test_a_tally_that_is_large_changes_nothing(self):
        small = ("let n be 1 / 100000", "times 3", "let n be n * n", "end", "let free[0] be 1", "ask top free")
        weighs = ("times 5", "weigh 0 by n", "end")
        count = done(*small, *weighs, "tell 1", "tally score", "tell 2", ballots=("ann",))
        self.assertEqual((count.history, count.end), ((("tell", (1, 1)),), "digits"))
        self.assertEqual(done(*small, *weighs, "tell 1", "tally score", "tell 2", ballots=("bo",)).end, "whole")
        fewer = ("times 4", "weigh 0 by n", "end", "weigh 0 by n * 10")
        count = done(*small, *fewer, "tally score", ballots=("ann",))
        self.assertEqual(count.history, (("tally", "score", ((1, 10 ** 199), (0, 1), (0, 1))),))

    def test_weights_may_be_large(self):
        small = ("let n be 1 / 100000", "times 3", "let n be n * n", "end", "let free[0] be 1", "ask top free")
        count = done(*small, "times 20", "weigh 0 by n", "end", "weigh 7 by n", ballots=("ann",))
        self.assertEqual(count.end, "weighs")
        count = done(*small, "times 20", "weigh 0 by n", "end", "ask mark 7", "sum n", ballots=("ann",))
        self.assertEqual(count.history, (("sum", "n", (0, 1)),))
        self.assertEqual(count.end, "whole")

    def test_only_the_whole_sum_is_looked_at(self):
        # Each of the two labels counts 1 and -1 times the same weight, far below the limit.
        small = ("let n be 1 / 100000", "times 3", "let n be n * n", "end")
        weighs = ("times 6", "weigh 0 - 2 by n", "end", "ask over 0 1", "sum x", "tell x")
        self.assertEqual(told(*small, *weighs, ballots=("ann", "bo")), [(0, 1)])
        self.assertEqual(done(*small, *weighs, ballots=("ann", "bo", "bo")).end, "digits")

    def test_weighs(self):
        for many, end in ((20, "whole"), (21, "weighs"), (19, "whole")):
            body = ["seat 1", "times 19", "weigh 7 by 1 / 2", "end", *["weigh 0 by 0"] * (many - 19), "tell 1", "seat 0"]
            count = done(*body, seats=2)
            self.assertEqual(count.end, end)
            self.assertEqual(count.seats, (1, 0) if end == "whole" else (1,))
            self.assertEqual(len(count.history), 3 if end == "whole" else 1)

    def test_nothing_of_the_next_weigh_is_evaluated(self):
        large = ("let n be 10", "times 7", "let n be n * n", "end")
        count = done(*large, "times 20", "weigh 7 by 1", "end", "weigh n * n by n * n")
        self.assertEqual(count.end, "weighs")
        count = done(*large, "times 19", "weigh 7 by 1", "end", "weigh n * n by n * n")
        self.assertEqual(count.end, "digits")

    def test_nothing_is_done_behind_an_end_within(self):
        body = ("times 3", "each a", "tell a", "times 11", "weigh 0 by 0", "end", "end", "tell 9", "end", "tell 8")
        count = done(*body)
        self.assertEqual((count.history, count.end), ((("tell", (0, 1)), ("tell", (1, 1))), "weighs"))


class Rolls(unittest.TestCase):
    def test_errors(self):
        contest = contest_of(shelf_text("rounds"))
        for value in (None, True, 0, "ann", contest):
            with self.assertRaises(InvalidRoll) as caught:
                plain_count(contest, value)
            self.assertEqual(caught.exception.at, -1)
        for roll, at in (([(0, 0, 0), [0, 0, 0]], 1), ([(True, 0, 0)], 0), (((0, 0, 0),) * 45 + (None,), 45)):
            with self.assertRaises(InvalidRoll) as caught:
                plain_count(contest, roll)
            self.assertEqual(caught.exception.at, at)
        with self.assertRaises(TooMany) as caught:
            plain_count(contest, [(0, 0, 0)] * 41)
        self.assertEqual((caught.exception.what, caught.exception.most), ("ballots", 40))
        self.assertEqual(plain_count(contest, [(0, 0, 0)] * 40).seats, (0,))

    def test_the_roll_stays(self):
        contest = contest_of(shelf_text("transfer", 2))
        roll = roll_of(contest, "ann > bo", "bo", "cy", "-")
        kept = list(roll)
        self.assertEqual(plain_count(contest, roll), plain_count(roll=tuple(roll), contest=contest))
        self.assertEqual(roll, kept)

    def test_the_order_means_nothing(self):
        for word, ballots in (("rounds", ("ann > bo", "bo", "cy > bo", "ann", "bo > ann")),
                              ("transfer", ("ann > bo", "ann > cy", "ann", "bo", "cy > bo")),
                              ("pairs", ("ann > bo > cy", "bo > cy > ann", "cy > ann > bo", "ann"))):
            contest = contest_of(shelf_text(word, 2))
            roll = roll_of(contest, *ballots)
            first = plain_count(contest, roll)
            for turn in range(1, len(roll)):
                self.assertEqual(plain_count(contest, roll[turn:] + roll[:turn]), first)
                self.assertEqual(plain_count(contest, roll[turn:][::-1] + roll[:turn]), first)

    def test_the_examples_of_rounds(self):
        contest = contest_of(shelf_text("rounds"))
        self.assertEqual(len(contest.markings()), 16)
        for ballots, tallies, seats in (
                (("ann > bo", "bo", "cy > bo", "-", "-"), [(1, 1, 1), (1, 2, 0)], (1,)),
                (("ann > bo", "bo", "cy > bo", "cy", "cy"), [(1, 1, 3)], (2,)),
                (("ann",) * 3 + ("bo",) * 2 + ("cy > bo",) * 2, [(3, 2, 2), (3, 4, 0)], (1,)),
                (("ann",) * 3 + ("bo",) * 2 + ("cy", "cy > bo"), [(3, 2, 2), (3, 3, 0), (3, 0, 0)], (0,))):
            count = plain_count(contest, roll_of(contest, *ballots))
            found = [tuple(worth[0] for worth in item[2]) for item in count.history if item[0] == "tally"]
            self.assertEqual(found, tallies)
            self.assertEqual((count.seats, count.end), (seats, "whole"))
            self.assertEqual(count.history[-1], ("seat", seats[0]))

    def test_the_example_of_transfer(self):
        contest = contest_of(shelf_text("transfer", 2))
        count = plain_count(contest, roll_of(contest, *["ann > bo"] * 4, "bo", "cy"))
        self.assertEqual(count, Count([("tally", "score", ((4, 1), (1, 1), (1, 1))), ("seat", 0),
                                       ("tally", "score", ((0, 1), (2, 1), (1, 1))),
                                       ("tally", "score", ((0, 1), (2, 1), (0, 1))), ("seat", 1)], [0, 1], "whole"))

    def test_each_rule_of_the_shelf(self):
        for word, seats, ballots, found in (
                ("most", 2, ("bo", "bo", "cy", "-", "ann", "cy", "bo"), (1, 2)),
                ("ticked", 1, ("ann cy", "cy", "bo cy", "ann"), (2,)),
                ("points", 2, ("ann 2 bo 1", "bo 2", "cy 1"), (1, 0)),
                ("places", 1, ("ann > bo", "bo > cy", "cy > bo"), (1,)),
                ("pairs", 3, ("ann > bo > cy", "bo > cy", "bo > ann"), (1, 0, 2)),
                ("levels", 1, ("ann 2 bo 1", "ann 1 bo 2", "cy 2"), (0,)),
                ("divisors", 4, ("ann", "ann cy", "ann", "bo"), (0, 0, 0, 1)),
                ("rests", 3, ("ann", "ann cy", "bo", "ann"), (0, 0, 1))):
            contest = contest_of(shelf_text(word, seats))
            self.assertEqual(plain_count(contest, roll_of(contest, *ballots)).seats, found, word)


class AgainstTheReference(unittest.TestCase):
    NAMES = ("ann", "bo", "cy", "dee")

    def compare(self, contest, roll):
        count = plain_count(contest, roll)
        self.assertEqual((count.history, count.seats, count.end), Plain(contest, roll).count(), str(contest.rule))
        return count

    def test_rules_that_are_made(self):
        ends = []
        for seed in range(400):
            maker = Maker(seed)
            rule = maker.rule(maker.one_of((One(), Ticks(), Points(2), Ranks(), Lists(2))))
            names = self.NAMES[:maker.one_of((2, 3, 4))]
            lot = sorted(names, key=lambda name: maker.random.randrange(100))
            contest = Contest(names, lot, rule)
            for _ in range(3):
                ends.append(self.compare(contest, maker.roll(contest)).end)
            if max(map(len, str(rule).splitlines())) <= 120 and rule.cost(5) <= 5000:
                self.assertEqual(read_rule(str(rule)), rule)
        self.assertEqual({end for end in ends if ends.count(end) > 10}, {"whole", "digits", "weighs"})

    def test_the_rules_of_the_shelf(self):
        for word in SHELF:
            for seats in (1, 2, 5):
                maker = Maker(seats)
                contest = contest_of(shelf_text(word, seats), names=self.NAMES, lot=self.NAMES[::-1])
                for _ in range(10):
                    self.assertEqual(self.compare(contest, maker.roll(contest)).end, "whole")
