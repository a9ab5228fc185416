"""The shelf: the ten rules of the package."""

from soleheld.errors import InvalidNumber, NoName
from soleheld.reading import MOST_SEATS
from soleheld.rules import read_rule
from soleheld.words import is_number

SHELF = ("most", "ticked", "points", "places", "rounds", "transfer", "pairs", "levels", "divisors", "rests")
# In all of these texts a semicolon and a space stand for a line feed, and K for the number of seats.
TEXTS = {
    "most": "rule most; form one; seats K; row free score; num best; begin; FREE; ask top free; tally score; CHOOSE",
    "ticked": "rule ticked; form ticks; seats K; row free score; num best got; begin; FREE; MARKS; CHOOSE",
    "points": "rule points; form points 2; seats K; row free score; num best got; begin; FREE; MARKS; CHOOSE",
    "places": "rule places; form ranks; seats K; row free score; num best got; begin; FREE; MARKS; CHOOSE",
    "rounds": (
        "rule rounds; form ranks; seats K; row stands score; num low best total; begin; "
        "each a; let stands[a] be 1; end; ask top stands; times names; tally score; LOOK; "
        "if total < 2 * score[best] or low = best; seat best; leave; end; "
        "let stands[low] be 0; ask top stands where low; end"
    ),
    "transfer": (
        "rule transfer; form ranks; seats K; row stands score; num low best total quota left; begin; "
        "each a; let stands[a] be 1; end; let quota be floor(votes / (seats + 1)) + 1; ask top stands; "
        "let left be names; times names; if seated < seats; tally score; LOOK; "
        "if left <= seats - seated; seat best; let low be best; else; "
        "if quota <= score[best]; seat best; weigh best by (score[best] - quota) / score[best]; let low be best; "
        "end; end; let stands[low] be 0; let left be left - 1; ask top stands where low; end; end"
    ),
    "pairs": (
        "rule pairs; form ranks; seats K; row free score; num best gap; begin; FREE; "
        "each a; each b; if lot[a] < lot[b]; ask over a b; sum gap; "
        "if 0 < gap; let score[a] be score[a] + 1; end; if gap < 0; let score[b] be score[b] + 1; end; "
        "end; end; end; CHOOSE"
    ),
    "levels": (
        "rule levels; form points 2; seats K; row score; num best got level; begin; let level be 2; "
        "times 3; each a; ask mark a from level; sum got; let score[a] be got; end; let best be 0; each a; "
        "if score[best] < score[a] or score[best] = score[a] and lot[a] < lot[best]; let best be a; end; end; "
        "if votes < 2 * score[best] or level = 0; seat best; leave; end; let level be level - 1; end"
    ),
    "divisors": (
        "rule divisors; form lists 2; seats K; row free score won rest; num best; begin; LISTS; "
        "ask top free; tally score; times 5; if seated < seats; "
        "each a; let rest[a] be score[a] / (won[a] + 1); end; BEST; "
        "seat best; let won[best] be won[best] + 1; end; end"
    ),
    "rests": (
        "rule rests; form lists 2; seats K; row free score rest; num best total; begin; LISTS; "
        "ask top free; tally score; let total be score[0] + score[1]; "
        "each a; if a < 2; let rest[a] be score[a] * seats / total; "
        "times 5; if 1 <= rest[a]; seat a; let rest[a] be rest[a] - 1; end; end; end; end; "
        "times 5; if seated < seats; BEST; seat best; let rest[best] be rest[best] - 1; end; end"
    ),
}
PARTS = {
    "FREE": "each a; let free[a] be 1; end",
    "MARKS": "each a; ask mark a; sum got; let score[a] be got; end",
    "CHOOSE": (
        "times names; if seated < seats; let best be 0 - 1; each a; if free[a]; "
        "if best < 0 or score[best] < score[a] or score[best] = score[a] and lot[a] < lot[best]; "
        "let best be a; end; end; end; seat best; let free[best] be 0; end; end"
    ),
    "LISTS": "each a; if a < 2; let free[a] be 1; end; end",
    "BEST": (
        "let best be 0; each a; if a < 2; "
        "if rest[best] < rest[a] or rest[best] = rest[a] and lot[a] < lot[best]; let best be a; end; end; end"
    ),
    "LOOK": (
        "let low be 0 - 1; let best be 0 - 1; let total be 0; "
        "each a; if stands[a]; let total be total + score[a]; "
        "if best < 0 or score[best] < score[a] or score[best] = score[a] and lot[a] < lot[best]; let best be a; end; "
        "if low < 0 or score[a] < score[low] or score[a] = score[low] and lot[low] < lot[a]; let low be a; end; "
        "end; end"
    ),
}


def shelf_text(word, seats=1):
    """The text of a rule of the shelf for a number of seats."""
    if not isinstance(word, str) or word not in TEXTS:
        raise NoName(word)
    if not is_number(seats, 1, MOST_SEATS):
        raise InvalidNumber(seats)
    text = TEXTS[word].replace("seats K", f"seats {seats}")
    for name, lines in PARTS.items():
        text = text.replace(name, lines)
    return text.replace("; ", "\n") + "\n"


def shelf_rule(word, seats=1):
    """A rule of the shelf for a number of seats."""
    return read_rule(shelf_text(word, seats))
