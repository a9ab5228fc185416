"""Rules: how texts are read, their own texts, their cost and the faults of texts."""

import re
import unittest

from helpers import HEAD, SHELF, lines_text, rule_text, shelf_text
from soleheld.errors import BadRule, CountError
from soleheld.forms import Form, Lists, One, Points, Ranks, Ticks
from soleheld.rules import Rule, read_rule, write_expression

ZERO = ("number", 0)
N = ("name", "n")
X = ("name", "x")
A = ("name", "a")
LEVELS = {"or": 1, "and": 2, "not": 3, "<": 4, "<=": 4, "=": 4, "+": 5, "-": 5, "*": 6, "/": 6}
BINARY = [sign for sign in LEVELS if sign != "not"]

FULL = """rule full
form points 2
seats 3
row score free
num n x
begin
let n be 999999999
let score[0] be free[n] + lot[1]
if n < votes
tell names
else
tell seats
end
if seated
end
each a
times 20
times names
if a
leave
end
end
end
end
ask top free
ask top free where x
ask mark 0
ask mark 0 where 1
ask mark n from 2
ask mark n from 2 where x
ask over n x
ask over n x where n
tally score
sum n
weigh n by x / 2
seat floor(min(n, max(x, 1)))
tell not (n or x) and (n <= 0 - x * 1) = 0
"""

FULL_STATEMENTS = (
    ("let", "n", ("number", 999999999)),
    ("set", "score", ZERO, ("+", ("at", "free", N), ("lot", ("number", 1)))),
    ("if", ("<", N, ("votes",)), (("tell", ("names",)),), (("tell", ("seats",)),)),
    ("if", ("seated",), (), ()),
    ("each", "a", (("times", 20, (("times", "names", (("if", A, (("leave",),), ()),)),)),)),
    ("ask", ("top", "free"), None),
    ("ask", ("top", "free"), X),
    ("ask", ("mark", ZERO), None),
    ("ask", ("mark", ZERO), ("number", 1)),
    ("ask", ("from", N, ("number", 2)), None),
    ("ask", ("from", N, ("number", 2)), X),
    ("ask", ("over", N, X), None),
    ("ask", ("over", N, X), N),
    ("tally", "score"),
    ("sum", "n"),
    ("weigh", N, ("/", X, ("number", 2))),
    ("seat", ("floor", ("min", N, ("max", X, ("number", 1))))),
    ("tell", ("and", ("not", ("or", N, X)),
              ("=", ("<=", N, ("-", ZERO, ("*", X, ("number", 1)))), ZERO))),
)


def fault(text):
    """The line and the word of the fault of a text."""
    try:
        read_rule(text)
    except BadRule as error:
        return error.line, error.what
    return None


def body_fault(*body, **head):
    """The same for these statements; lines are counted from the first of them."""
    found = fault(rule_text(*body, **head))
    return found and (found[0] - 6, found[1])


def told(text, **head):
    """The expression that is read from a text."""
    return read_rule(rule_text(f"tell {text}", **head)).statements[0][1]


class Reading(unittest.TestCase):
    def test_a_rule_with_everything(self):
        rule = read_rule(FULL)
        self.assertIsInstance(rule, Rule)
        self.assertEqual(rule.word, "full")
        self.assertEqual(rule.form, Points(2))
        self.assertIsInstance(rule.form, Form)
        self.assertEqual(rule.seats, 3)
        self.assertEqual(rule.rows, ("score", "free"))
        self.assertEqual(rule.nums, ("n", "x"))
        self.assertEqual(rule.statements, FULL_STATEMENTS)
        self.assertIs(type(rule.statements), tuple)

    def test_its_own_text(self):
        rule = read_rule(FULL)
        self.assertEqual(str(rule), FULL)
        self.assertEqual(read_rule(str(rule)), rule)

    def test_by_name(self):
        self.assertEqual(read_rule(text=FULL), read_rule(FULL))

    def test_the_least_rule(self):
        text = "rule a\nform one\nseats 5\nrow\nnum\nbegin\n"
        rule = read_rule(text)
        self.assertEqual((rule.word, rule.form, rule.seats, rule.rows, rule.nums, rule.statements),
                         ("a", One(), 5, (), (), ()))
        self.assertEqual(str(rule), text)
        self.assertEqual(rule.cost(5), 0)

    def test_forms(self):
        for form in (One(), Ticks(), Ranks(), Points(1), Points(3), Lists(1), Lists(4)):
            self.assertEqual(read_rule(rule_text(form=str(form))).form, form)
        self.assertEqual(read_rule(rule_text(form="  points   3 ")).form, Points(3))

    def test_other_spaces_and_empty_lines(self):
        tokens = [re.findall("<=|[a-z]+|[0-9]+|[^ ]", line) for line in FULL.splitlines()]
        loose = "".join("  " + "  ".join(line) + " \n \n\n" for line in tokens)
        self.assertEqual(read_rule(loose), read_rule(FULL))
        self.assertEqual(str(read_rule(loose)), FULL)
        tight = FULL
        for sign in ("<", "=", "+", "-", "*", "/", "(", ")", "[", "]", ","):
            tight = tight.replace(f" {sign}", sign).replace(f"{sign} ", sign)
        self.assertNotEqual(tight, FULL)
        self.assertEqual(read_rule(tight), read_rule(FULL))
        self.assertEqual(str(read_rule(tight)), FULL)

    def test_more_parentheses(self):
        text = FULL.replace("n < votes", "((n) < (votes))").replace("by x / 2", "by ((x / (2)))")
        self.assertEqual(read_rule(text), read_rule(FULL))
        self.assertEqual(str(read_rule(text)), FULL)

    def test_an_else_without_statements(self):
        rule = read_rule(rule_text("if n", "tell n", "else", "end", "if x", "else", "tell 1", "end"))
        self.assertEqual(rule.statements, (("if", N, (("tell", N),), ()), ("if", X, (), (("tell", ("number", 1)),))))
        self.assertEqual(str(rule), rule_text("if n", "tell n", "end", "if x", "else", "tell 1", "end"))

    def test_an_expression_is_as_long_as_it_can_be(self):
        rule = read_rule(rule_text("ask over n - x n", "ask mark n from x - 1 where n or x", "ask over n (x)"))
        self.assertEqual([statement[1] for statement in rule.statements],
                         [("over", ("-", N, X), N), ("from", N, ("-", X, ("number", 1))), ("over", N, X)])
        self.assertEqual(rule.statements[1][2], ("or", N, X))

    def test_names_of_8_letters_and_words_of_forms(self):
        rule = read_rule(rule_text("let abcdefgh be ranks", "each ticks", "tell one[ticks]", "end",
                                   word="lists", row="one", num="abcdefgh ranks"))
        self.assertEqual((rule.word, rule.rows, rule.nums), ("lists", ("one",), ("abcdefgh", "ranks")))

    def test_the_name_of_the_rule_may_be_that_of_a_variable(self):
        self.assertEqual(read_rule(rule_text("each test", "end")).word, "test")
        self.assertEqual(read_rule(rule_text(word="score")).word, "score")
        self.assertEqual(read_rule(rule_text(word="n")).word, "n")

    def test_an_each_name_may_come_again(self):
        rule = read_rule(rule_text("each a", "tell a", "end", "each a", "end"))
        self.assertEqual(rule.statements, (("each", "a", (("tell", A),)), ("each", "a", ())))

    def test_the_rules_of_the_shelf_are_own_texts(self):
        for word in SHELF:
            for seats in (1, 5):
                rule = read_rule(shelf_text(word, seats))
                self.assertEqual((rule.word, rule.seats), (word, seats))
                self.assertEqual(str(rule), shelf_text(word, seats))


class Expressions(unittest.TestCase):
    def test_single_ones(self):
        for text, found in (("0", ZERO), ("999999999", ("number", 999999999)), ("n", N), ("votes", ("votes",)),
                            ("names", ("names",)), ("seats", ("seats",)), ("seated", ("seated",)),
                            ("score[n]", ("at", "score", N)), ("lot[n]", ("lot", N)), ("floor(n)", ("floor", N)),
                            ("min(n, x)", ("min", N, X)), ("max(n, x)", ("max", N, X)), ("not n", ("not", N)),
                            ("not not n", ("not", ("not", N))), ("score[free[lot[n]]]",
                                                                  ("at", "score", ("at", "free", ("lot", N))))):
            self.assertEqual(told(text), found)
            self.assertEqual(write_expression(found), text)
            self.assertEqual(told(f"({text})"), found)

    def test_operators_associate_to_the_left(self):
        for sign in ("or", "and", "+", "-", "*", "/"):
            self.assertEqual(told(f"n {sign} x {sign} 1"), (sign, (sign, N, X), ("number", 1)))
        self.assertEqual(told("n - x + 1"), ("+", ("-", N, X), ("number", 1)))
        self.assertEqual(told("n / x * 1"), ("*", ("/", N, X), ("number", 1)))

    def test_from_loose_to_tight(self):
        self.assertEqual(told("n or x and not n < x + n * x"),
                         ("or", N, ("and", X, ("not", ("<", N, ("+", X, ("*", N, X)))))))
        self.assertEqual(told("n * x + n < x and n or x"),
                         ("or", ("and", ("<", ("+", ("*", N, X), N), X), N), X))
        self.assertEqual(told("not n and x"), ("and", ("not", N), X))
        self.assertEqual(told("not n = x"), ("not", ("=", N, X)))

    def test_parentheses_operator_by_operator(self):
        for outer in BINARY:
            for inner in LEVELS:
                part = ("not", X) if inner == "not" else (inner, X, N)
                text = write_expression(part)
                looser = LEVELS[inner] < LEVELS[outer]
                equal = LEVELS[inner] == LEVELS[outer]
                left = f"({text})" if looser or equal and LEVELS[outer] == 4 else text
                right = f"({text})" if looser or equal else text
                for expression, said in (((outer, part, N), f"{left} {outer} n"), ((outer, N, part), f"n {outer} {right}")):
                    self.assertEqual(write_expression(expression), said)
                    self.assertEqual(told(said), expression)
        for inner in LEVELS:
            part = ("not", X) if inner == "not" else (inner, X, N)
            text = write_expression(part)
            said = f"not ({text})" if LEVELS[inner] < 3 else f"not {text}"
            self.assertEqual(write_expression(("not", part)), said)
            self.assertEqual(told(said), ("not", part))

    def test_no_parentheses_round_parts_of_others(self):
        either = ("or", N, X)
        for expression, said in ((("floor", either), "floor(n or x)"), (("min", either, either), "min(n or x, n or x)"),
                                 (("max", ("not", N), either), "max(not n, n or x)"),
                                 (("at", "score", either), "score[n or x]"), (("lot", ("not", N)), "lot[not n]")):
            self.assertEqual(write_expression(expression), said)
            self.assertEqual(told(said), expression)

    def test_by_name(self):
        self.assertEqual(write_expression(expression=("+", N, ("number", 12))), "n + 12")

    def test_an_own_line_may_be_too_long_to_be_read(self):
        rule = read_rule(rule_text("tell " + "+".join("1" * 58)))
        self.assertEqual(str(rule), rule_text("tell " + " + ".join("1" * 58)))
        self.assertEqual(fault(str(rule)), (6, "form"))


class Cost(unittest.TestCase):
    def cost(self, many, *body):
        return read_rule(rule_text(*body)).cost(many)

    def test_each_statement(self):
        for many in range(2, 6):
            for body, found in ((("let n be 1",), 1), (("let score[0] be 1",), 1), (("ask top free",), 1),
                                (("tally score", "sum n", "weigh n by x", "seat n", "tell n"), 5),
                                (("if n", "end"), 1), (("if n", "tell n", "end"), 2),
                                (("if n", "tell n", "else", "tell n", "tell n", "end"), 3),
                                (("if n", "tell n", "tell n", "tell n", "else", "tell n", "end"), 4),
                                (("each a", "end"), 1), (("each a", "tell a", "tell a", "end"), 1 + 2 * many),
                                (("times 7", "tell n", "leave", "end"), 15), (("times names", "tell n", "end"), 1 + many),
                                (("times 2", "each a", "if n", "tell a", "end", "end", "end"), 1 + 2 * (1 + many * 2))):
                self.assertEqual(self.cost(many, *body), found, body)

    def test_by_name(self):
        self.assertEqual(read_rule(rule_text("tell n")).cost(many=2), 1)

    def test_the_bound(self):
        # 1 + 20 * (1 + 20 * 12) = 4821, and 179 more statements would make 5000.
        body = ["times 20", "times 20", *["tell n"] * 12, "end", "end"]
        self.assertEqual(read_rule(rule_text(*body)).cost(5), 4821)
        more = ["times 20", *["tell 1"] * 8, "end"]
        exact = read_rule(rule_text(*body, *more, *["tell 2"] * 18))
        self.assertEqual((exact.cost(2), exact.cost(5)), (5000, 5000))
        self.assertEqual(fault(rule_text(*body, *more, *["tell 2"] * 19)), (0, "cost"))

    def test_it_is_that_of_five_candidates(self):
        nested = ["each a", "each b", "each c", "each d", "times 7", "tell a", "end", "end", "end", "end", "end"]
        self.assertEqual(fault(rule_text(*nested)), (0, "cost"))
        least = ["each a", "each b", "each c", "each d", "times 6", "tell a", "end", "end", "end", "end", "end"]
        self.assertEqual(read_rule(rule_text(*least)).cost(2), 2 + 4 + 8 + 16 * 7 + 1)


class Equality(unittest.TestCase):
    def test_equal(self):
        self.assertTrue(read_rule(FULL) == read_rule(FULL))
        self.assertFalse(read_rule(FULL) != read_rule(FULL))

    def test_unlike_in_one_thing(self):
        rule = read_rule(rule_text("tell 0"))
        for other in (rule_text("tell 0", word="tests"), rule_text("tell 0", form="ticks"), rule_text("tell 0", seats=2),
                      rule_text("tell 0", row="score"), rule_text("tell 0", row="free score"),
                      rule_text("tell 0", num="x n"), rule_text("tell 0", num="n"), rule_text("tell 1"), rule_text()):
            self.assertFalse(rule == read_rule(other), other)
        points = read_rule(rule_text(form="points 1"))
        self.assertFalse(points == read_rule(rule_text(form="points 2")))

    def test_nothing_of_another_class(self):
        rule = read_rule(rule_text())
        for other in (None, str(rule), "test", rule.statements, 0, One()):
            self.assertFalse(rule == other)

    def test_repr(self):
        self.assertEqual(repr(read_rule(shelf_text("rounds"))), "Rule(rounds)")
        self.assertEqual(repr(read_rule(FULL)), "Rule(full)")


class FaultForm(unittest.TestCase):
    def test_no_strings(self):
        for value in (None, True, 0, 7, (), [], [FULL], (FULL,), read_rule(FULL), One()):
            self.assertEqual(fault(value), (0, "form"))

    def test_the_error(self):
        with self.assertRaises(CountError) as caught:
            read_rule("rule\n")
        self.assertEqual((caught.exception.code, caught.exception.line, caught.exception.what), ("BadRule", 0, "form"))

    def test_first_lines(self):
        wrong = {
            0: ("rule", "rule a b", "rule rule", "rule seats", "rule abcdefghi", "rule 1", "rulea", "tell 1", "begin",
                "form one", "Rule a", "rule A", "rule a,"),
            1: ("form", "form two", "form one 0", "form one 1", "form points", "form points 0", "form points 4",
                "form points k", "form lists 5", "form lists 0", "form ranks 1", "form points 2 2", "form points02",
                "form points(2)", "form top", "seats 1", "form lists - 1"),
            2: ("seats", "seats 0", "seats 6", "seats a", "seats 1 1", "seats 01", "seats seats", "seats 10",
                "seats 999999999", "row a", "seat 1", "seats -1", "seats (1)"),
            3: ("row 1", "row row", "row a, b", "row abcdefghi", "row a seats", "num a", "rows a", "row a b 2"),
            4: ("num 1", "num num", "num abcdefghi", "row a", "begin", "num a lot", "num - a"),
            5: ("begin begin", "begin 1", "begins", "tell 1", "num"),
        }
        for number, lines in wrong.items():
            for line in lines:
                text = lines_text([*HEAD[:number], line, *HEAD[number + 1:]])
                self.assertEqual(fault(text), (number, "form"), line)

    def test_statements(self):
        for line in ("let", "let n", "let n be", "let n 1", "let n be 1 2", "let be be 1", "let n be be", "let n be n be n",
                     "let score[0] 1", "let score[] be 1", "let score[0 be 1", "let score 0] be 1", "let score(0) be 1",
                     "let lot[0] be 1", "let votes be 1", "let 1 be 1", "let abcdefghi be 1", "if", "if n n", "if n else",
                     "else", "end", "end end", "each", "each 1", "each a b", "each each", "each abcdefghi", "times",
                     "times 0", "times 21", "times n", "times 2 2", "times votes", "times 1 + 1", "times 05", "leave 1",
                     "ask", "ask top", "ask top 1", "ask top free where", "ask top free free", "ask top free from 1",
                     "ask top free[0]", "ask mark", "ask mark n from", "ask mark n x", "ask mark n from 1 from 2",
                     "ask over n", "ask over n, x", "ask over n x x", "ask where n", "ask n", "ask mark n where 1 where 1",
                     "tally", "tally score free", "tally 1", "tally score[0]", "tally lot", "sum", "sum n x", "sum 1",
                     "sum votes", "weigh n", "weigh n by", "weigh by 1", "weigh n x", "weigh n by 1 by 1", "seat", "seat n n",
                     "seat by", "tell", "tell n, x", "form one", "begin", "row a", "num a", "rule a", "n", "1", "(", "top free",
                     "be 1", "letn be 1", "let n be1", "tells 1", "unknown"):
            self.assertEqual(body_fault("tell 1", line), (1, "form"), line)

    def test_expressions(self):
        for text in ("", "+", "n +", "+ n", "- 1", "-1", "n - - 1", "n + not x", "n < not x", "n * not x", "not", "not + 1",
                     "n < x < 1", "n = x = 1", "n <= x = 1", "n < = x", "n > x", "n >= x", "n == x", "n => x", "(n", "n)",
                     "()", "(n))", "((n)", "(n]", "score[n", "score n]", "score[n)", "score[]", "score[n x]", "score[n, x]",
                     "(n, x)", "floor n", "floor()", "floor(n, x)", "floor[n]", "min(n)", "min(n, x, 1)", "min(n x)", "max()",
                     "max n, x", "min[n, x]", "lot", "lot(n)", "lot[]", "votes[0]", "votes()", "n n", "n 1", "1 n", "1 1",
                     "n and", "or n", "n or or x", "n and or x", "top", "mark n", "where", "by", "let", "end", "score[0][0]",
                     "abcdefghi", "abcdefghi[0]", "00", "01", "1234567890", "0000000001", "1a", "a1", "1.5", "n % x", "N", "n;",
                     "n\t", "n_x", "n!", "'n'", "n & x", "n, x", "a.b", "#", "{n}"):
            self.assertEqual(body_fault(f"tell {text}"), (0, "form"), text)

    def test_an_else_and_an_end_in_their_places(self):
        for body, line in ((("if n", "else", "else", "end"), 2), (("each a", "else", "end"), 1),
                           (("times 2", "else", "end"), 1), (("if n", "times 2", "else", "end", "end"), 2),
                           (("if n", "end", "end"), 2), (("if n", "end", "else"), 2), (("if n", "else", "end", "else"), 3),
                           (("end",), 0), (("else",), 0)):
            self.assertEqual(body_fault(*body), (line, "form"), body)
        self.assertIsNone(body_fault("if n", "else", "if n", "else", "end", "end"))

    def test_characters_of_a_line(self):
        fits = "tell n" + " " * 114
        self.assertEqual(len(fits), 120)
        self.assertIsNone(body_fault(fits))
        self.assertEqual(body_fault(fits + " "), (0, "form"))
        self.assertIsNone(body_fault(" " * 120))
        self.assertEqual(body_fault(" " * 121), (0, "form"))
        self.assertIsNone(body_fault("tell 1" + "+1" * 57))
        self.assertEqual(body_fault("tell 11" + "+1" * 57), (0, "form"))

    def test_a_last_line_without_its_line_feed(self):
        for body in ("tell n", " ", "tell", "((((((((((((", "each score"):
            self.assertEqual(fault(rule_text() + body), (6, "form"))
        self.assertEqual(fault("rule test"), (0, "form"))
        self.assertEqual(fault(" "), (0, "form"))

    def test_bounds_of_numbers(self):
        self.assertIsNone(body_fault("tell 999999999", "times 1", "end", "times 20", "end", seats=5))
        self.assertEqual(body_fault("tell 1000000000"), (0, "form"))


class OtherFaults(unittest.TestCase):
    def test_long(self):
        body = ["tell 1"] * 114
        self.assertIsNone(body_fault(*body))
        for line in ("tell 1", "", "wrong", "(" * 130, "each score"):
            self.assertEqual(fault(rule_text(*body, line)), (120, "long"))
        self.assertEqual(fault(rule_text(*body) + "tell"), (120, "long"))
        self.assertEqual(fault("\n" * 121), (120, "long"))
        self.assertEqual(fault("\n" * 120), (120, "missing"))
        self.assertEqual(fault("\n" * 114 + rule_text()), None)

    def test_deep_brackets(self):
        self.assertEqual(told("(" * 10 + "n" + ")" * 10), N)
        self.assertEqual(body_fault("tell " + "(" * 11 + "n" + ")" * 11), (0, "deep"))
        self.assertEqual(told("score[" * 10 + "n" + "]" * 10)[0], "at")
        self.assertEqual(body_fault("tell " + "score[" * 11 + "n" + "]" * 11), (0, "deep"))
        self.assertEqual(body_fault("tell " + "floor(score[" * 5 + "(n)" + "])" * 5), (0, "deep"))
        self.assertIsNone(body_fault("tell " + "floor(score[" * 5 + "n" + "])" * 5))
        self.assertIsNone(body_fault("tell " + "+".join(["(n)"] * 12)))

    def test_deep_comes_ahead_of_the_pattern(self):
        self.assertEqual(body_fault("(" * 11), (0, "deep"))
        self.assertEqual(body_fault("[" * 11), (0, "deep"))
        self.assertEqual(body_fault("([" * 5 + "("), (0, "deep"))
        self.assertEqual(body_fault("(" * 10), (0, "form"))
        self.assertEqual(body_fault(")" * 3 + "(" * 10), (0, "form"))
        self.assertEqual(body_fault(")" * 3 + "(" * 11), (0, "deep"))
        self.assertEqual(body_fault("(" * 10 + "]" + "["), (0, "form"))
        self.assertEqual(body_fault("(" * 10 + "]" + "[["), (0, "deep"))
        self.assertEqual(fault("(" * 11 + "\n"), (0, "deep"))
        self.assertEqual(fault(lines_text(["rule a", "form " + "(" * 11])), (1, "deep"))

    def test_wrong_tokens_come_ahead_of_deep(self):
        self.assertEqual(body_fault("(" * 11 + "!"), (0, "form"))
        self.assertEqual(body_fault("(" * 11 + "01"), (0, "form"))
        self.assertEqual(body_fault("(" * 121), (0, "form"))
        self.assertEqual(body_fault("(" * 11 + "abcdefghijkl"), (0, "deep"))

    def test_deep_blocks(self):
        for head in ("if n", "times 1"):
            self.assertIsNone(body_fault(*[head] * 8, *["end"] * 8))
            self.assertEqual(body_fault(*[head] * 9, *["end"] * 9), (8, "deep"))
        mixed = ["if n", "each a", "times 1", "each b", "if a", "else", "times names", "each c", "if c"]
        self.assertIsNone(body_fault(*mixed, *["end"] * 8))
        for line in ("if 1", "each d", "times 1"):
            self.assertEqual(body_fault(*mixed, line), (9, "deep"))
        self.assertIsNone(body_fault(*mixed, "end", "if 1", "end", *["end"] * 7))

    def test_the_pattern_comes_ahead_of_a_ninth_block(self):
        self.assertEqual(body_fault(*["if n"] * 8, "times 21"), (8, "form"))
        self.assertEqual(body_fault(*["if n"] * 8, "each"), (8, "form"))
        self.assertEqual(body_fault(*["if n"] * 8, "each score"), (8, "deep"))
        self.assertEqual(body_fault(*["if n"] * 8, "if none"), (8, "deep"))

    def test_many(self):
        self.assertEqual(len(read_rule(rule_text(row="a b c d e f g h")).rows), 8)
        self.assertEqual(fault(rule_text(row="a b c d e f g h i")), (3, "many"))
        self.assertEqual(fault(rule_text(row="a a a a a a a a a")), (3, "many"))
        self.assertEqual(fault(rule_text(row="a b c d e f g h 1")), (3, "form"))
        self.assertEqual(len(read_rule(rule_text(row="", num="a b c d e f g h i j k l")).nums), 12)
        self.assertEqual(fault(rule_text(num="a b c d e f g h i j k l m")), (4, "many"))
        self.assertEqual(fault(rule_text(num="a b c d e f g h i j k l score")), (4, "many"))

    def test_double(self):
        self.assertEqual(fault(rule_text(row="a b a")), (3, "double"))
        self.assertEqual(fault(rule_text(num="a b b")), (4, "double"))
        self.assertEqual(fault(rule_text(row="a b", num="c b")), (4, "double"))
        for body, line in ((("each score",), 0), (("each n",), 0), (("each a", "each a"), 1),
                           (("each a", "if a", "times 2", "each a"), 3)):
            self.assertEqual(body_fault(*body), (line, "double"), body)

    def test_unknown(self):
        for line in ("tell m", "tell test", "tell score", "tell n[0]", "tell m[0]", "tell a", "let m be 1", "let score be 1",
                     "let n[0] be 1", "let m[0] be 1", "let a[0] be 1", "tally n", "tally m", "sum score", "sum m", "ask top n",
                     "ask top m", "ask top free where m", "ask mark m", "ask mark 0 from m", "ask over m 0", "ask over 0 m",
                     "ask over 0 0 where m", "weigh m by 1", "weigh 1 by m", "seat m", "if m", "tell floor(min(1, max(m, 1)))",
                     "tell lot[m]", "tell not m", "tell score[m]", "tell 1 + 2 * m", "let score[m] be 1", "let score[0] be m",
                     "tell score[free[n[1]]]", "let n be score", "each a", "tell ticks"):
            found = body_fault("tell 1", line) if line != "each a" else body_fault("each a", "end", "tell a")
            self.assertEqual(found, (2 if line == "each a" else 1, "unknown"), line)

    def test_an_each_name_is_none_of_let_and_sum(self):
        self.assertEqual(body_fault("each a", "let a be 1", "end"), (1, "unknown"))
        self.assertEqual(body_fault("each a", "sum a", "end"), (1, "unknown"))
        self.assertIsNone(body_fault("each a", "let n be a", "end"))

    def test_leave(self):
        for body, line in ((("leave",), 0), (("if n", "leave", "end"), 1), (("each a", "leave", "end"), 1),
                           (("times 2", "end", "leave"), 2)):
            self.assertEqual(body_fault(*body), (line, "leave"), body)
        self.assertIsNone(body_fault("times 2", "each a", "if a", "else", "leave", "end", "end", "end"))

    def test_missing(self):
        text = FULL
        for end in range(len(text)):
            start = text[:end]
            feeds = start.count("\n")
            begun = feeds >= 6
            first_words = [line.split(" ")[0] for line in start.splitlines()]
            opened = sum(first_words.count(word) for word in ("if", "each", "times")) - first_words.count("end")
            if start and not start.endswith("\n"):
                self.assertEqual(fault(start), (feeds, "form"), start)
            elif not begun or opened:
                self.assertEqual(fault(start), (feeds, "missing"), start)
            else:
                self.assertIsNone(fault(start), start)
        self.assertEqual(fault(""), (0, "missing"))
        self.assertEqual(fault("\n \n"), (2, "missing"))

    def test_missing_comes_ahead_of_cost(self):
        dear = ["times 20", "times 20", "times 20", "tell n", "end", "end", "end"]
        self.assertEqual(fault(rule_text(*dear)), (0, "cost"))
        self.assertEqual(fault(rule_text(*dear, "if n")), (14, "missing"))
        self.assertEqual(fault(rule_text(*dear, "tell m")), (13, "unknown"))

    def test_the_first_wrong_line_counts(self):
        self.assertEqual(body_fault("", "tell m", "wrong"), (1, "unknown"))
        self.assertEqual(body_fault("leave", "tell m"), (0, "leave"))
        self.assertEqual(body_fault("tell 1", "each n", "tell"), (1, "double"))
        self.assertEqual(fault(lines_text(["rule a", "form one", "seats 9", "wrong"])), (2, "form"))
        self.assertEqual(fault(rule_text("tell m", row="a a")), (3, "double"))

    def test_two_faults_in_one_line(self):
        self.assertEqual(body_fault("tell m m"), (0, "form"))
        self.assertEqual(body_fault("tell m +"), (0, "form"))
        self.assertEqual(body_fault("each score score"), (0, "form"))
        self.assertEqual(body_fault("leave leave"), (0, "form"))
        self.assertEqual(fault(rule_text(row="a a abcdefghi")), (3, "form"))
        self.assertEqual(fault(rule_text(row="a b c d e f g h seats")), (3, "form"))
