"""The entries of minutes, and their texts there and back."""

from soleheld.contests import MOST_BALLOTS
from soleheld.sheets import MOST_FIGURE, has_figures, is_shown
from soleheld.words import is_figures, is_name, is_number

# What stands behind the word of an entry. Ahead of those parts that are several words stands a colon.
PATTERNS = {
    "sheet": ("number", "number", "name", "sheet"),
    "which": ("number", "number", "name", "number", "number", "ballots"),
    "show": ("number", "number", "name", "shown"),
    "opened": ("number", "number"),
    "struck": ("name", "reason"),
    "clash": ("number", "number"),
    "taken": ("number", "number", "rows"),
    "told": ("end", "seats"),
}
ANSWERS = ("sheet", "ballots", "shown")
LONG_PARTS = ("sheet", "ballots", "shown", "rows", "seats")
FAULTS = ("silent", "shape")
REASONS = ("silent", "shape", "below", "sum", "rows", "spoiled", "seal", "wrong")
ENDS = ("digits", "weighs", "whole")
COLON = " :"
LONGEST_FIGURES = 9


def has_pattern(value):
    """Whether any value is an entry: a tuple with all that its word asks for."""
    if not isinstance(value, tuple) or value == () or not isinstance(value[0], str):
        return False
    kinds = PATTERNS.get(value[0])
    if kinds is None or len(value) != len(kinds) + 1:
        return False
    return all([is_part(kind, part) for kind, part in zip(kinds, value[1:])])


def is_part(kind, value):
    """Whether any value may stand in the place of a part of an entry."""
    if kind in ANSWERS and value in FAULTS:
        return True
    if kind == "number":
        return is_number(value, 0, MOST_FIGURE)
    if kind == "name":
        return is_name(value)
    if kind == "reason":
        return value in REASONS
    if kind == "end":
        return value in ENDS
    if not isinstance(value, tuple):
        return False
    if kind == "shown":
        return is_shown(value)
    if kind == "ballots":
        return has_figures(value) and len(value) <= MOST_BALLOTS
    if kind == "seats":
        return are_sizes(value)
    return value != () and all([is_row_of(kind, row) for row in value])


def is_row_of(kind, value):
    """Whether any value is a row of a sheet, or of what is taken."""
    if not isinstance(value, tuple) or value == ():
        return False
    return has_figures(value) if kind == "sheet" else are_sizes(value)


def are_sizes(values):
    """Whether all values of a list are numbers from 0 on that may stand in an entry."""
    return all([is_number(value, 0, MOST_FIGURE) for value in values])


def entry_text(entry):
    """The text of an entry."""
    found = entry[0]
    for kind, part in zip(PATTERNS[entry[0]], entry[1:]):
        if kind in LONG_PARTS:
            found = found + COLON
        text = part_text(kind, part)
        # Behind the colon nothing stands for no numbers, also no space.
        found = found if text is None else f"{found} {text}"
    return found


def part_text(kind, part):
    """The text of a part of an entry, None for no numbers."""
    if part == ():
        return None
    if isinstance(part, str):
        return part
    if kind in ("sheet", "rows"):
        return " / ".join([words_text(row) for row in part])
    return words_text(part) if kind in LONG_PARTS else str(part)


def words_text(values):
    """The text of a row of numbers, or of a salt and a text."""
    return " ".join([str(value) for value in values])


def read_entry(text):
    """The entry with a text, None for a string that is the text of none."""
    head, _, rest = text.partition(COLON)
    words = head.split(" ")
    kinds = PATTERNS.get(words[0], ())
    found = [words[0]]
    for kind, word in zip(kinds, words[1:]):
        found.append(read_number(word) if kind == "number" else word)
    if kinds != () and kinds[-1] in LONG_PARTS:
        found.append(read_long(kinds[-1], rest))
    entry = tuple(found)
    # The parts are read loosely, and only the text that would be written is taken.
    return entry if has_pattern(entry) and entry_text(entry) == text else None


def read_number(word):
    """The number that a word may stand for, None if it stands for none."""
    figures = word.removeprefix("-")
    return int(word) if is_figures(figures) and len(figures) <= LONGEST_FIGURES else None


def read_numbers(text):
    """The tuple of the numbers of the words of a text."""
    return tuple([read_number(word) for word in text.split(" ")])


def read_long(kind, rest):
    """What stands behind a colon, with the space ahead of it."""
    if rest == "":
        return ()
    text = rest[1:]
    if kind in ANSWERS and text in FAULTS:
        return text
    if kind == "shown":
        salt, _, shown = text.partition(" ")
        return (read_number(salt), shown)
    if kind in ("sheet", "rows"):
        return tuple([read_numbers(row) for row in text.split(" / ")])
    return read_numbers(text)
