"""The five forms of markings, and the texts of ballots."""

from soleheld.errors import InvalidNumber, Spoiled
from soleheld.words import is_number

BLANK = "-"
LONGEST_TEXT = 60


class Form:
    """The base class of the five forms."""


class One(Form):
    """One candidate is marked, or none is."""

    def __init__(self):
        self.word = "one"
        self.number = 0

    def markings(self, many):
        """The ascending list of all markings for a number of candidates."""
        return [row for row in mark_rows(many, 1) if sum(row) <= 1]

    def written(self, names, marking):
        """The text of a marking."""
        return joined_names(marked_names(names, marking))

    def read(self, names, text):
        """The marking with a text."""
        words = ballot_words(text)
        if words == [BLANK]:
            return blank(names)
        if len(words) != 1:
            raise Spoiled(text, "shape")
        check_names(names, words, text)
        return marked(len(names), [names.index(word) for word in words])

    def __str__(self):
        return f"{self.word}"

    def __eq__(self, other):
        return isinstance(other, One) and self.word == other.word and self.number == other.number


class Ticks(Form):
    """Any candidates are marked."""

    def __init__(self):
        self.word = "ticks"
        self.number = 0

    def markings(self, many):
        """The ascending list of all markings for a number of candidates."""
        return mark_rows(many, 1)

    def written(self, names, marking):
        """The text of a marking."""
        return joined_names(marked_names(names, marking))

    def read(self, names, text):
        """The marking with a text."""
        words = ballot_words(text)
        if words == [BLANK]:
            return blank(names)
        check_names(names, words, text)
        check_single(words, text)
        check_order(names, words, text)
        return marked(len(names), [names.index(word) for word in words])

    def __str__(self):
        return f"{self.word}"

    def __eq__(self, other):
        return isinstance(other, Ticks) and self.word == other.word and self.number == other.number


class Points(Form):
    """Each candidate has a mark from 0 to the number of the form."""

    def __init__(self, number):
        if not is_number(number, 1, 3):
            raise InvalidNumber(number)
        self.word = "points"
        self.number = number

    def markings(self, many):
        """The ascending list of all markings for a number of candidates."""
        return mark_rows(many, self.number)

    def written(self, names, marking):
        """The text of a marking."""
        return joined_names([f"{name} {mark}" for name, mark in zip(names, marking) if mark > 0])

    def read(self, names, text):
        """The marking with a text."""
        words = ballot_words(text)
        if words == [BLANK]:
            return blank(names)
        chosen = words[::2]
        figures = words[1::2]
        allowed = [str(mark) for mark in range(1, self.number + 1)]
        if len(chosen) != len(figures) or any([figure not in allowed for figure in figures]):
            raise Spoiled(text, "shape")
        check_names(names, chosen, text)
        check_single(chosen, text)
        check_order(names, chosen, text)
        marks = {name: int(figure) for name, figure in zip(chosen, figures)}
        return tuple([marks.get(name, 0) for name in names])

    def __str__(self):
        return f"{self.word} {self.number}"

    def __eq__(self, other):
        return isinstance(other, Points) and self.word == other.word and self.number == other.number


class Ranks(Form):
    """Some candidates stand in a strict order."""

    def __init__(self):
        self.word = "ranks"
        self.number = 0

    def markings(self, many):
        """The ascending list of all markings for a number of candidates."""
        orders = [()]
        found = [ranked(many, ())]
        for _ in range(many):
            orders = [order + (a,) for order in orders for a in range(many) if a not in order]
            found.extend([ranked(many, order) for order in orders])
        return sorted(found)

    def written(self, names, marking):
        """The text of a marking."""
        marks = range(len(names), 0, -1)
        order = [names[marking.index(mark)] for mark in marks if mark in marking]
        return " > ".join(order) if order else BLANK

    def read(self, names, text):
        """The marking with a text."""
        words = ballot_words(text)
        if words == [BLANK]:
            return blank(names)
        order = words[::2]
        signs = words[1::2]
        if len(order) != len(signs) + 1 or any([sign != ">" for sign in signs]):
            raise Spoiled(text, "shape")
        check_names(names, order, text)
        check_single(order, text)
        return ranked(len(names), [names.index(name) for name in order])

    def __str__(self):
        return f"{self.word}"

    def __eq__(self, other):
        return isinstance(other, Ranks) and self.word == other.word and self.number == other.number


class Lists(Form):
    """A list is marked, and beside it at most one of its members."""

    def __init__(self, number):
        if not is_number(number, 1, 4):
            raise InvalidNumber(number)
        self.word = "lists"
        self.number = number

    def markings(self, many):
        """The ascending list of all markings for a number of candidates."""
        lists = min(self.number, many)
        found = [marked(many, ())]
        found.extend([marked(many, (a,)) for a in range(lists)])
        found.extend([marked(many, (a % lists, a)) for a in range(lists, many)])
        return sorted(found)

    def written(self, names, marking):
        """The text of a marking."""
        return joined_names(marked_names(names, marking))

    def read(self, names, text):
        """The marking with a text."""
        words = ballot_words(text)
        if words == [BLANK]:
            return blank(names)
        if len(words) > 2:
            raise Spoiled(text, "shape")
        check_names(names[:self.number], words[:1], text)
        check_names(names[self.number:], words[1:], text)
        numbers = [names.index(word) for word in words]
        if numbers[-1] % self.number != numbers[0]:
            raise Spoiled(text, "list")
        return marked(len(names), numbers)

    def __str__(self):
        return f"{self.word} {self.number}"

    def __eq__(self, other):
        return isinstance(other, Lists) and self.word == other.word and self.number == other.number


def read_form(text):
    """The form that is written so, None for any other value."""
    forms = [One(), Ticks(), Ranks()]
    forms.extend([Points(number) for number in range(1, 4)])
    forms.extend([Lists(number) for number in range(1, 5)])
    for form in forms:
        if str(form) == text:
            return form
    return None


def mark_rows(many, most):
    """The ascending list of all tuples of so many marks from 0 to most."""
    rows = [()]
    for _ in range(many):
        rows = [row + (mark,) for row in rows for mark in range(most + 1)]
    return rows


def marked(many, numbers):
    """The marking with the mark 1 for the candidates with these numbers."""
    return tuple([1 if a in numbers else 0 for a in range(many)])


def ranked(many, order):
    """The marking of an order of the numbers of candidates."""
    return tuple([many - order.index(a) if a in order else 0 for a in range(many)])


def blank(names):
    """The marking without any mark."""
    return (0,) * len(names)


def marked_names(names, marking):
    """The names of the candidates with a mark above 0."""
    return [name for name, mark in zip(names, marking) if mark > 0]


def joined_names(words):
    """A ballot text of words; a sign of its own if there are none."""
    return " ".join(words) if words else BLANK


def ballot_words(text):
    """The words of a ballot text between single spaces."""
    if not isinstance(text, str) or len(text) > LONGEST_TEXT or "\n" in text:
        raise Spoiled(text, "signs")
    words = text.split(" ")
    # A space at an end, two together, or no text at all leave an empty word.
    if "" in words:
        raise Spoiled(text, "signs")
    return words


def check_names(names, words, text):
    """Refuses words that are none of the names."""
    if any([word not in names for word in words]):
        raise Spoiled(text, "name")


def check_single(words, text):
    """Refuses words of which one stands twice."""
    if len(set(words)) < len(words):
        raise Spoiled(text, "double")


def check_order(names, words, text):
    """Refuses names that are not in the order of the candidates."""
    numbers = [names.index(word) for word in words]
    if numbers != sorted(numbers):
        raise Spoiled(text, "order")
