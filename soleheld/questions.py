"""Questions: into how many ballots of each sort blocks divide."""

from soleheld.copies import frozen


def split_block(markings, labels):
    """The ascending list of the pairs of a new label and the tuple of the numbers of markings that get it."""
    found = []
    for label in sorted(set(labels)):
        found.append((label, tuple([number for number, given in zip(markings, labels) if given == label])))
    return found


class Question:
    """A question with a part for each block that is split. It never changes."""

    def __init__(self, number, parts):
        self.number = number
        self.parts = frozen(parts)

    def answer_of(self, numbers):
        """The answer that the ballots with these numbers of markings give."""
        return tuple([sizes_in(subs, numbers) for _, _, subs in self.parts])

    def due(self, sizes):
        """The ascending tuple of the numbers of the parts whose blocks have a size above 0."""
        return tuple([part for part, size in enumerate(sizes) if size > 0])

    def __eq__(self, other):
        return isinstance(other, Question) and self.number == other.number and self.parts == other.parts

    def __repr__(self):
        return f"Question({self.number}, {len(self.parts)} parts)"


def sizes_in(subs, numbers):
    """The row of a part: how many of the numbers stand in each sub-block."""
    return tuple([len([number for number in numbers if number in sub]) for sub in subs])


def has_rows(parts, value):
    """Whether any value has a row for each of these parts, with as many items as the part has sub-blocks."""
    if not isinstance(value, (list, tuple)) or len(value) != len(parts):
        return False
    return all([is_row(row, len(subs)) for row, (_, _, subs) in zip(value, parts)])


def is_row(value, many):
    """Whether any value is a list or tuple of so many items."""
    return isinstance(value, (list, tuple)) and len(value) == many
