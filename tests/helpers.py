"""What several tests need: texts of rules, among them those of [35] of the document, and bundles of ballots."""

from soleheld.books import slip_of
from soleheld.contests import Contest
from soleheld.rules import read_rule
from soleheld.seals import WholeSeal

HEAD = ("rule test", "form ranks", "seats 1", "row score free", "num n x", "begin")
FREE = "each a; let free[a] be 1; end"
CHOOSE = ("times names; if seated < seats; let best be 0 - 1; each a; if free[a]; if best < 0 or score[best] < score[a] "
          "or score[best] = score[a] and lot[a] < lot[best]; let best be a; end; end; end; seat best; "
          "let free[best] be 0; end; end")
LISTS = "each a; if a < 2; let free[a] be 1; end; end"
BEST = ("let best be 0; each a; if a < 2; if rest[best] < rest[a] or rest[best] = rest[a] and lot[a] < lot[best]; "
        "let best be a; end; end; end")
LOOK = ("let low be 0 - 1; let best be 0 - 1; let total be 0; each a; if stands[a]; let total be total + score[a]; "
        "if best < 0 or score[best] < score[a] or score[best] = score[a] and lot[a] < lot[best]; let best be a; end; "
        "if low < 0 or score[a] < score[low] or score[a] = score[low] and lot[low] < lot[a]; let low be a; end; end; end")
MARKS = "each a; ask mark a; sum got; let score[a] be got; end"
SHELF = {
    "most": f"rule most; form one; seats K; row free score; num best; begin; {FREE}; ask top free; tally score; {CHOOSE}",
    "ticked": f"rule ticked; form ticks; seats K; row free score; num best got; begin; {FREE}; {MARKS}; {CHOOSE}",
    "points": f"rule points; form points 2; seats K; row free score; num best got; begin; {FREE}; {MARKS}; {CHOOSE}",
    "places": f"rule places; form ranks; seats K; row free score; num best got; begin; {FREE}; {MARKS}; {CHOOSE}",
    "rounds": ("rule rounds; form ranks; seats K; row stands score; num low best total; begin; each a; "
               f"let stands[a] be 1; end; ask top stands; times names; tally score; {LOOK}; "
               "if total < 2 * score[best] or low = best; seat best; leave; end; let stands[low] be 0; "
               "ask top stands where low; end"),
    "transfer": ("rule transfer; form ranks; seats K; row stands score; num low best total quota left; begin; each a; "
                 "let stands[a] be 1; end; let quota be floor(votes / (seats + 1)) + 1; ask top stands; "
                 f"let left be names; times names; if seated < seats; tally score; {LOOK}; "
                 "if left <= seats - seated; seat best; let low be best; else; if quota <= score[best]; seat best; "
                 "weigh best by (score[best] - quota) / score[best]; let low be best; end; end; "
                 "let stands[low] be 0; let left be left - 1; ask top stands where low; end; end"),
    "pairs": (f"rule pairs; form ranks; seats K; row free score; num best gap; begin; {FREE}; each a; each b; "
              "if lot[a] < lot[b]; ask over a b; sum gap; if 0 < gap; let score[a] be score[a] + 1; end; "
              f"if gap < 0; let score[b] be score[b] + 1; end; end; end; end; {CHOOSE}"),
    "levels": ("rule levels; form points 2; seats K; row score; num best got level; begin; let level be 2; times 3; "
               "each a; ask mark a from level; sum got; let score[a] be got; end; let best be 0; each a; "
               "if score[best] < score[a] or score[best] = score[a] and lot[a] < lot[best]; let best be a; end; end; "
               "if votes < 2 * score[best] or level = 0; seat best; leave; end; let level be level - 1; end"),
    "divisors": (f"rule divisors; form lists 2; seats K; row free score won rest; num best; begin; {LISTS}; "
                 "ask top free; tally score; times 5; if seated < seats; each a; "
                 f"let rest[a] be score[a] / (won[a] + 1); end; {BEST}; seat best; "
                 "let won[best] be won[best] + 1; end; end"),
    "rests": (f"rule rests; form lists 2; seats K; row free score rest; num best total; begin; {LISTS}; ask top free; "
              "tally score; let total be score[0] + score[1]; each a; if a < 2; "
              "let rest[a] be score[a] * seats / total; times 5; if 1 <= rest[a]; seat a; "
              "let rest[a] be rest[a] - 1; end; end; end; end; times 5; "
              f"if seated < seats; {BEST}; seat best; let rest[best] be rest[best] - 1; end; end"),
}


def lines_text(lines):
    """A text of lines."""
    return "".join(line + "\n" for line in lines)


def shelf_text(word, seats=1):
    """The text of a rule of [35]."""
    return SHELF[word].replace("seats K", f"seats {seats}", 1).replace("; ", "\n") + "\n"


def rule_text(*body, word="test", form="ranks", seats=1, row="score free", num="n x"):
    """A text with these statements behind the first lines."""
    head = (f"rule {word}", f"form {form}", f"seats {seats}", f"row {row}".rstrip(), f"num {num}".rstrip(), "begin")
    return lines_text(head + body)


def contest_of(text, names=("ann", "bo", "cy"), lot=None):
    """A contest with the rule of a text; the lot is the order of the candidates, unless another one is told."""
    return Contest(names, names if lot is None else lot, read_rule(text))


def roll_of(contest, *texts):
    """The roll of ballot texts."""
    return [contest.read(text) for text in texts]


def hands_of(contest, *bundles):
    """The papers of bundles of ballot texts; each bundle is of another place, and the salts ascend."""
    return [[(f"place{'abcdefghijkl'[at]}", number, 100 * at + number, contest.read(text))
             for number, text in enumerate(texts)] for at, texts in enumerate(bundles)]


def bundles_of(contest, hands, seal=WholeSeal()):
    """The slips of these papers."""
    return [tuple(slip_of(contest, paper, seal) for paper in papers) for papers in hands]


def caught(kind, call, *values, **more):
    """The error of a kind that a call raises, as the tuple of its attributes; None if it raises none."""
    try:
        call(*values, **more)
    except kind as error:
        return tuple(value for name, value in vars(error).items() if name != "code")
    return None
