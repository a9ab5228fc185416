"""Houses: courses that are led by what counters say."""

from soleheld.books import sealed_text
from soleheld.contests import MOST_BALLOTS
from soleheld.copies import frozen
from soleheld.courses import Course
from soleheld.errors import BadStaff, Ended, NoName, TooMany
from soleheld.hearings import Hearing
from soleheld.inquiries import Inquiry
from soleheld.shares import full_rows, part_sizes, sizes_behind, sum_of_rows
from soleheld.staffs import MOST_BUNDLES


class Clash:
    """Two unlike sealed texts that have one seal, as two persons showed them of a ballot."""

    def __init__(self, bundle, ballot, first, second):
        self.bundle = bundle
        self.ballot = ballot
        self.first = first
        self.second = second

    def __eq__(self, other):
        return (isinstance(other, Clash) and self.bundle == other.bundle and self.ballot == other.ballot
                and self.first == other.first and self.second == other.second)


class House:
    """A count over bundles that is led by the persons of a staff."""

    def __init__(self, contest, bundles, staff, voices, *, seal, chooser=()):
        check_house(bundles, staff, voices)
        self.contest = contest
        self.staff = staff
        slips = frozen(bundles)
        heard = {person: voices[person] for person in staff.persons()}
        self._inquiry = Inquiry(contest, slips, heard, seal, tuple(chooser))
        self._course = Course(contest, sum([len(bundle) for bundle in slips]))
        self._taken = [[len(bundle)] for bundle in slips]
        self._turns = 0
        self._result = None
        self._finish()

    @property
    def question(self):
        """The present question, None when the house has ended."""
        return None if self.ended else self._course.question

    @property
    def ended(self):
        """Whether the house has ended."""
        return self._result is not None

    @property
    def result(self):
        """The count, or the clash; None before the end."""
        return self._result

    @property
    def openings(self):
        """How many times a ballot was opened."""
        return self._inquiry.times_opened

    def turn(self):
        """Does one turn: all bundles are asked the present question."""
        if self.ended:
            raise Ended()
        self._turns += 1
        question = self._course.question
        blocks = self._course.blocks()
        rows = [full_rows(question, (), ()) for _ in self._taken]
        for bundle, due, sizes in self._order(question, blocks):
            hearing = Hearing(self._inquiry, question, bundle, due, sizes)
            hearing.hear(self.staff.over(bundle))
            clash = hearing.settle()
            if clash is not None:
                self._result = self._clash_of(clash)
                return
            taken = hearing.taken_rows()
            self._inquiry.note(("taken", question.number, bundle, taken))
            rows[bundle] = full_rows(question, due, taken)
        self._lead_on(question, blocks, rows)

    def _order(self, question, blocks):
        """The list of the bundles with due parts in the order of a turn, with these parts and their sizes."""
        found = []
        for bundle, taken in enumerate(self._taken):
            sizes = part_sizes(question, blocks, taken)
            due = question.due(sizes)
            if due != ():
                found.append((bundle, due, [sizes[part] for part in due]))
        if found == []:
            return []
        first = self._inquiry.choose(list(range(len(found))))
        return found[first:] + found[:first]

    def _clash_of(self, clash):
        """The clash to which a hearing came."""
        bundle, ballot, first, second = clash
        slip = self._inquiry.slips[bundle][ballot]
        texts = []
        for salt, text in (first, second):
            texts.append(sealed_text(self.contest, (slip[0], slip[1], salt, self.contest.read(text))))
        return Clash(bundle, ballot, texts[0], texts[1])

    def _lead_on(self, question, blocks, rows):
        """Leads the course on by the rows that were taken of each bundle."""
        total = full_rows(question, (), ())
        for row in rows:
            total = sum_of_rows(total, row)
        self._course.take(total)
        behind = self._course.blocks()
        self._taken = [sizes_behind(question, blocks, sizes, row, behind) for sizes, row in zip(self._taken, rows)]
        self._finish()

    def _finish(self):
        """Tells the count, if the course has come to its end."""
        if self._course.ended:
            self._result = self._course.so_far()
            self._inquiry.note(("told", self._result.end, self._result.seats))

    def run(self):
        """Does turns until the house has ended, and returns the result."""
        while not self.ended:
            self.turn()
        return self._result

    def struck(self):
        """The list of the pairs of a struck person and the reason, in order."""
        return list(self._inquiry.strikes)

    def taken(self, bundle):
        """The list of the taken sizes of a bundle, one for each block."""
        return list(self._taken[bundle])

    def blocks(self):
        """The list of the blocks."""
        return self._course.blocks()

    def course(self):
        """A twin of the course."""
        return self._course.twin()

    def entries(self):
        """The minutes."""
        return list(self._inquiry.minutes)

    def twin(self):
        """An independent house in the same state."""
        inquiry = self._inquiry
        other = House(self.contest, inquiry.slips, self.staff, inquiry.voices, seal=inquiry.seal)
        other._inquiry = inquiry.twin()
        other._course = self._course.twin()
        other._taken = [list(sizes) for sizes in self._taken]
        other._turns = self._turns
        other._result = self._result
        return other

    def __repr__(self):
        return f"House({self._turns} turns, {state_word(self.ended)})"


def state_word(ended):
    """The word for the state of a house."""
    return "ended" if ended else "open"


def check_house(bundles, staff, voices):
    """Refuses what a house cannot have."""
    if len(bundles) > MOST_BUNDLES:
        raise TooMany("bundles", MOST_BUNDLES)
    if sum([len(bundle) for bundle in bundles]) > MOST_BALLOTS:
        raise TooMany("ballots", MOST_BALLOTS)
    if len(staff) != len(bundles):
        raise BadStaff(-1)
    for person in staff.persons():
        if person not in voices:
            raise NoName(person)
