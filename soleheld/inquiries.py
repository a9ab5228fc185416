"""Inquiries: what a house asks its persons, what it notes of this, and whom it strikes."""

from soleheld.copies import frozen
from soleheld.sheets import sheet_fault, show_fault, which_fault
from soleheld.voices import show_key, which_key


class Inquiry:
    """The persons of a house with their voices, all that was asked of them, and what came of it."""

    def __init__(self, contest, slips, voices, seal, chooser):
        self.contest = contest
        self.slips = slips
        self.voices = voices
        self.seal = seal
        self.chooser = chooser
        self.numbers_used = 0
        self.told = {}
        self.minutes = []
        self.strikes = []
        self.times_opened = 0

    def twin(self):
        """An independent inquiry in the same state."""
        other = Inquiry(self.contest, self.slips, self.voices, self.seal, self.chooser)
        other.numbers_used = self.numbers_used
        other.told = {key: said for key, said in self.told.items()}
        other.minutes = list(self.minutes)
        other.strikes = list(self.strikes)
        other.times_opened = self.times_opened
        return other

    def choose(self, things):
        """The one of a list of things that is chosen."""
        if len(things) == 1 or self.chooser == ():
            return things[0]
        number = self.chooser[self.numbers_used % len(self.chooser)]
        self.numbers_used += 1
        return things[number % len(things)]

    def note(self, entry):
        """Adds an entry to the minutes."""
        self.minutes.append(entry)

    def strike(self, person, why):
        """Strikes a person for a reason."""
        self.strikes.append((person, why))
        self.note(("struck", person, why))

    def is_struck(self, person):
        """Whether a person is struck."""
        return any([name == person for name, _ in self.strikes])

    def ask_sheet(self, person, question, bundle, due, sizes):
        """The pair of the sheet of a person and the reason for which it is not good."""
        voice = self.voices[person]
        answer = frozen(voice.sheet(question, bundle, due))
        fault = sheet_fault(question, due, sizes, answer)
        self.note(("sheet", question.number, bundle, person, noted(answer, fault)))
        return (answer, fault)

    def ask_which(self, person, question, bundle, part, sub, size):
        """The pair of the ballots that a person names and the reason for which they are not good; asked once only."""
        key = (person, *which_key(question, bundle, part, sub))
        if key not in self.told:
            voice = self.voices[person]
            answer = frozen(voice.which(question, bundle, part, sub))
            fault = which_fault(answer, size, len(self.slips[bundle]))
            self.note(("which", question.number, bundle, person, part, sub, noted(answer, fault)))
            self.told[key] = (answer, fault)
        return self.told[key]

    def ask_show(self, person, bundle, ballot):
        """The pair of what a person shows of a ballot and the reason for which it is not good; asked once only."""
        key = (person, *show_key(bundle, ballot))
        if key not in self.told:
            voice = self.voices[person]
            answer = frozen(voice.show(bundle, ballot))
            fault = show_fault(self.contest, self.slips[bundle][ballot], self.seal, answer)
            self.note(("show", bundle, ballot, person, noted(answer, fault)))
            self.told[key] = (answer, fault)
        return self.told[key]

    def note_opening(self, bundle, ballot):
        """Notes that a ballot is opened."""
        self.times_opened += 1
        self.note(("opened", bundle, ballot))


def noted(answer, fault):
    """An answer as it stands in the minutes: only the reason, if there is nothing in it that could be written."""
    return fault if fault in ("silent", "shape") else answer
