"""Courses: counts that are led by sizes, without the ballots."""

from soleheld.contests import MOST_BALLOTS
from soleheld.copies import frozen
from soleheld.counts import Count
from soleheld.errors import BadSizes, Ended, InvalidNumber
from soleheld.leading import begun
from soleheld.questions import has_rows, sizes_in
from soleheld.words import is_integer, is_number


class Course:
    """A count of a number of votes. It stands at a question, or at its end."""

    def __init__(self, contest, votes):
        if not is_number(votes, 0, MOST_BALLOTS):
            raise InvalidNumber(votes)
        self.contest = contest
        self.votes = votes
        self._answers = []
        self._leading = begun(contest, votes)

    @property
    def question(self):
        """The question that is open, None at the end."""
        return self._leading.asked

    @property
    def ended(self):
        """Whether the count has come to its end."""
        return self._leading.asked is None

    def blocks(self):
        """The list of the blocks, in order."""
        return [(pile.numbers, pile.label, pile.weight) for pile in self._leading.counting.piles]

    def sizes(self):
        """The list of the sizes of the blocks."""
        return [pile.size for pile in self._leading.counting.piles]

    def take(self, answer):
        """Leads the course on by an answer to its question."""
        if self.ended:
            raise Ended()
        if not is_answer(self.question, self._leading.split_sizes(), answer):
            raise BadSizes(self.question.number)
        rows = frozen(answer)
        self._answers.append(rows)
        self._leading.lead_on(rows)

    def answers(self):
        """The list of the answers that were taken."""
        return list(self._answers)

    def so_far(self):
        """The count, as far as it has come."""
        counting = self._leading.counting
        return Count(counting.history, counting.seats, counting.end)

    def sizes_of(self, roll):
        """The list of the sizes that a roll has in the blocks."""
        numbers = [self.contest.number_of(marking) for marking in roll]
        return list(sizes_in([pile.numbers for pile in self._leading.counting.piles], numbers))

    def twin(self):
        """An independent course in the same state."""
        other = Course(self.contest, self.votes)
        other._answers = list(self._answers)
        other._leading = self._leading.twin()
        return other

    def __eq__(self, other):
        return (isinstance(other, Course) and self.contest == other.contest and self.votes == other.votes
                and self._answers == other._answers)

    def __repr__(self):
        return f"Course({len(self._answers)} answers)"


def is_answer(question, sizes, value):
    """Whether any value is an answer to a question, whose blocks have these sizes."""
    return has_rows(question.parts, value) and all([adds_up(row, size) for row, size in zip(value, sizes)])


def adds_up(row, size):
    """Whether the items of a row are numbers from 0 on that add up to a size."""
    return all([is_integer(number) and number >= 0 for number in row]) and sum(row) == size


def lead(contest, roll):
    """The course of a roll, led to its end by the sizes that the roll has."""
    contest.check_roll(roll)
    course = Course(contest, len(roll))
    numbers = [contest.number_of(marking) for marking in roll]
    while not course.ended:
        course.take(course.question.answer_of(numbers))
    return course
