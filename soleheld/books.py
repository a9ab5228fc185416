"""Books: sealed ballots in chained entries, their closings, and the roads on which they are shown."""

from soleheld.contests import marking_of
from soleheld.errors import Closed, InvalidName, InvalidNumber, TooMany
from soleheld.words import is_name, is_number

MOST_SALT = 9999
MOST_ENTRIES = 60
MILE = 4
SPOILED_ENTRY = "spoiled"


def chained_text(head, entry):
    """The string whose seal is the head behind an entry."""
    return f"{len(head)}:{head}/{entry}"


def heads_of(place, entries, seal):
    """The list of the heads of a list of entries, one more than these."""
    heads = [seal.of(place)]
    for entry in entries:
        heads.append(seal.of(chained_text(heads[-1], entry)))
    return heads


class Closing:
    """What is told of a book when it is closed."""

    def __init__(self, place, number, last_head, milestones):
        self.place = place
        self.number = number
        self.last_head = last_head
        self.milestones = tuple(milestones)

    def stretch(self, entries, seal):
        """The pair of the ends of the stretch in which a list of entries is altered, None if it fits."""
        found = closing_of(self.place, entries, seal)
        if found == self:
            return None
        fewer = min(self.number, found.number)
        for mile in range(fewer // MILE):
            if self.milestones[mile:mile + 1] != found.milestones[mile:mile + 1]:
                return (mile * MILE, mile * MILE + MILE)
        return (fewer // MILE * MILE, max(self.number, found.number))

    def __eq__(self, other):
        return (isinstance(other, Closing) and self.place == other.place and self.number == other.number
                and self.last_head == other.last_head and self.milestones == other.milestones)


def closing_of(place, entries, seal):
    """The closing of a list of entries."""
    heads = heads_of(place, entries, seal)
    return Closing(place, len(entries), heads[-1], heads[MILE::MILE])


def chained_texts(heads, entries):
    """The list of the strings whose seals are the heads behind the entries."""
    return [chained_text(head, entry) for head, entry in zip(heads, entries)]


def clash_of(place, first, second, seal):
    """The last two unlike strings that are sealed for two unlike lists with one last head, None if there are none."""
    if list(first) == list(second) or len(first) != len(second):
        return None
    first_heads = heads_of(place, first, seal)
    second_heads = heads_of(place, second, seal)
    if first_heads[-1] != second_heads[-1]:
        return None
    first_texts = chained_texts(first_heads, first)
    second_texts = chained_texts(second_heads, second)
    # These strings are unlike exactly where the heads ahead of an entry, or the entries, are.
    unlike = [(text, other) for text, other in zip(first_texts, second_texts) if text != other]
    return unlike[-1]


def sealed_text(contest, paper):
    """The text of a paper that is sealed."""
    place, number, salt, marking = paper
    return f"{place}/{number}/{salt}/{contest.written(marking)}"


def slip_of(contest, paper, seal):
    """The slip of a paper: what the chair has of it."""
    return (paper[0], paper[1], seal.of(sealed_text(contest, paper)))


def road_pair(signs):
    """The pair on a road of which one is not true, None if the chair signs that what came fits."""
    if signs[-1]:
        return None
    fitting = [taker for taker, sign in enumerate(signs, start=1) if sign]
    last = fitting[-1] if fitting else 0
    return (last, last + 1)


class Book:
    """The book of a place, in which ballots are entered until it is closed."""

    def __init__(self, contest, place, *, seal):
        if not is_name(place):
            raise InvalidName(place)
        self.contest = contest
        self.place = place
        self._seal = seal
        self._entries = []
        self._papers = []
        self._last_head = seal.of(place)
        self._closing = None

    @property
    def head(self):
        """The last head of the entries."""
        return self._last_head

    @property
    def closed(self):
        """Whether the book is closed."""
        return self._closing is not None

    def cast(self, salt, text):
        """Adds the entry of a ballot text with a salt, and returns it."""
        self._check_cast(salt, 0)
        return self._enter(salt, text)

    def cast_all(self, pairs):
        """Casts pairs of a salt and a text in order, or none of them; returns the list of their entries."""
        for ahead, (salt, _) in enumerate(pairs):
            self._check_cast(salt, ahead)
        return [self._enter(salt, text) for salt, text in pairs]

    def _check_cast(self, salt, ahead):
        """Refuses what cannot be cast when so many more entries stand ahead of it."""
        if self.closed:
            raise Closed(self.place)
        if not is_number(salt, 0, MOST_SALT):
            raise InvalidNumber(salt)
        if len(self._entries) + ahead >= MOST_ENTRIES:
            raise TooMany("entries", MOST_ENTRIES)

    def _enter(self, salt, text):
        """Adds the entry of a ballot text that may be cast."""
        entry = SPOILED_ENTRY
        marking = marking_of(self.contest, text)
        if marking is not None:
            paper = (self.place, len(self._entries), salt, marking)
            self._papers.append(paper)
            entry = f"b:{self._seal.of(sealed_text(self.contest, paper))}"
        self._entries.append(entry)
        self._last_head = self._seal.of(chained_text(self._last_head, entry))
        return entry

    def close(self):
        """Closes the book and returns its closing."""
        if self._closing is None:
            self._closing = closing_of(self.place, self._entries, self._seal)
        return self._closing

    def entries(self):
        """The list of the entries."""
        return list(self._entries)

    def papers(self):
        """The list of the papers of the entries that are not spoiled."""
        return list(self._papers)

    def __contains__(self, entry):
        return isinstance(entry, str) and entry in self._entries

    def __len__(self):
        return len(self._entries)

    def __bool__(self):
        return True

    def __repr__(self):
        return f"Book({self.place}, {len(self._entries)} entries)"
