"""Days: whole elections, from the books of several places to a house over their bundles."""

from soleheld.books import Book, closing_of, slip_of
from soleheld.errors import Closed, InvalidName, InvalidNumber
from soleheld.houses import House
from soleheld.words import is_name, is_number

MOST_SIZE = 12


class Day:
    """An election in which ballots are cast at places, until it is closed."""

    def __init__(self, contest, *, seal, size=12):
        if not is_number(size, 1, MOST_SIZE):
            raise InvalidNumber(size)
        self._contest = contest
        self._seal = seal
        self._bundle_size = size
        self._books = {}
        self._is_closed = False

    @property
    def closed(self):
        """Whether the day is closed."""
        return self._is_closed

    def cast(self, place, salt, text):
        """Casts a ballot text with a salt in the book of a place, and returns its entry."""
        if self.closed:
            raise Closed(place)
        if not is_name(place):
            raise InvalidName(place)
        book = self._books.get(place)
        if book is None:
            book = Book(self._contest, place, seal=self._seal)
        entry = book.cast(salt, text)
        # Only now, since a cast that is refused begins no book.
        self._books[place] = book
        return entry

    def close(self):
        """Closes all books and the day."""
        for book in self._books.values():
            book.close()
        self._is_closed = True

    def places(self):
        """The list of the places, in the order of their first casts."""
        return list(self._books)

    def closings(self):
        """The list of the closings of the books, as they are now."""
        return [closing_of(place, book.entries(), self._seal) for place, book in self._books.items()]

    def hands(self):
        """The list of the lists of papers into which the books are cut."""
        found = []
        for book in self._books.values():
            papers = book.papers()
            for start in range(0, len(papers), self._bundle_size):
                found.append(papers[start:start + self._bundle_size])
        return found

    def bundles(self):
        """The list of the slips of the papers, as bundles."""
        return [tuple([slip_of(self._contest, paper, self._seal) for paper in papers]) for papers in self.hands()]

    def house(self, staff, voices, *, chooser=()):
        """A house over the bundles."""
        return House(self._contest, self.bundles(), staff, voices, seal=self._seal, chooser=chooser)
