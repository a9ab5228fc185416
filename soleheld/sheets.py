"""Good answers of persons, and the reasons for which an answer is not good."""

from soleheld.books import MOST_SALT, sealed_text
from soleheld.contests import MOST_BALLOTS, marking_of
from soleheld.forms import LONGEST_TEXT
from soleheld.questions import has_rows
from soleheld.words import is_number

MOST_FIGURE = 999999999


def sheet_fault(question, due, sizes, answer):
    """The reason for which any value is no good sheet, the empty string if it is one."""
    if answer is None:
        return "silent"
    if not has_rows([question.parts[part] for part in due], answer) or not all([has_figures(row) for row in answer]):
        return "shape"
    if any([number < 0 for row in answer for number in row]):
        return "below"
    if any([sum(row) != size for row, size in zip(answer, sizes)]):
        return "sum"
    return ""


def has_figures(values):
    """Whether all values of a list are numbers as an answer may have them."""
    return all([is_number(value, -MOST_FIGURE, MOST_FIGURE) for value in values])


def which_fault(answer, size, many):
    """The reason for which any value is no good list of ballots, the empty string if it is one."""
    if answer is None:
        return "silent"
    if not isinstance(answer, (list, tuple)) or len(answer) > MOST_BALLOTS or not has_figures(answer):
        return "shape"
    if list(answer) != sorted(set(answer)) or len(answer) != size:
        return "rows"
    if any([not 0 <= ballot < many for ballot in answer]):
        return "rows"
    return ""


def show_fault(contest, slip, seal, answer):
    """The reason for which any value does not show the ballot of a slip, the empty string if it does."""
    if answer is None:
        return "silent"
    if not is_shown(answer):
        return "shape"
    salt, text = answer
    marking = marking_of(contest, text)
    if marking is None:
        return "spoiled"
    place, number, code = slip
    return "" if seal.of(sealed_text(contest, (place, number, salt, marking))) == code else "seal"


def is_shown(value):
    """Whether any value is a salt and a string that could be the text of a ballot."""
    if not isinstance(value, (list, tuple)) or len(value) != 2:
        return False
    salt, text = value
    return is_number(salt, 0, MOST_SALT) and isinstance(text, str) and len(text) <= LONGEST_TEXT and "\n" not in text


def parting(first, second):
    """The first pair of the index of a row and a sub-block at which two good sheets differ, None if they are alike."""
    for index, (row, other) in enumerate(zip(first, second)):
        for sub, (size, other_size) in enumerate(zip(row, other)):
            if size != other_size:
                return (index, sub)
    return None


def lone_ballot(first, second):
    """The least number that is in just one of two lists, None if there is none."""
    lone = [number for number in first if number not in second] + [number for number in second if number not in first]
    return min(lone, default=None)
