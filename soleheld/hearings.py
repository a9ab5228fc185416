"""Hearings: how the persons over a bundle are heard at a question, and how their quarrels are settled."""

from soleheld.sheets import lone_ballot, parting


class Hearing:
    """A bundle at a question: its due parts, their sizes, and the sheets of those who are heard."""

    def __init__(self, inquiry, question, bundle, due, sizes):
        self.inquiry = inquiry
        self.asked = question
        self.bundle = bundle
        self.due_parts = due
        self.due_sizes = sizes
        self.sheets = {}

    def hear(self, persons):
        """Asks the persons over the bundle for their sheets."""
        for person in persons:
            if not self.inquiry.is_struck(person):
                sheet, fault = self.ask_sheet(person)
                if fault == "":
                    self.sheets[person] = sheet
                else:
                    self.inquiry.strike(person, fault)

    def ask_sheet(self, person):
        """The pair of the sheet of a person and the reason for which it is not good."""
        return self.inquiry.ask_sheet(person, self.asked, self.bundle, self.due_parts, self.due_sizes)

    def settle(self):
        """Settles all quarrels. The clash to which one comes, None if none does."""
        clash = None
        while clash is None and self.is_quarrel():
            heard = list(self.sheets)
            x = self.inquiry.choose(heard)
            y = self.inquiry.choose([person for person in heard if self.sheets[person] != self.sheets[x]])
            clash = self.settle_quarrel(x, y)
        return clash

    def is_quarrel(self):
        """Whether two sheets are unlike."""
        sheets = list(self.sheets.values())
        return any([sheet != sheets[0] for sheet in sheets])

    def settle_quarrel(self, x, y):
        """Settles the quarrel of two persons. A clash is the tuple of bundle, ballot and what both showed."""
        index, sub = parting(self.sheets[x], self.sheets[y])
        part = self.due_parts[index]
        named = {}
        for person in (x, y):
            size = self.sheets[person][index][sub]
            named[person] = self.inquiry.ask_which(person, self.asked, self.bundle, part, sub, size)
        if self.strike_faulty(named):
            return None
        ballot = lone_ballot(named[x][0], named[y][0])
        self.inquiry.note_opening(self.bundle, ballot)
        shown = {person: self.inquiry.ask_show(person, self.bundle, ballot) for person in (x, y)}
        if self.strike_faulty(shown):
            return None
        if shown[x][0] != shown[y][0]:
            self.inquiry.note(("clash", self.bundle, ballot))
            return (self.bundle, ballot, shown[x][0], shown[y][0])
        is_in = self.is_in_sub(shown[x][0], part, sub)
        self.strike(y if is_in == (ballot in named[x][0]) else x, "wrong")
        return None

    def is_in_sub(self, shown, part, sub):
        """Whether a ballot that was shown is in a sub-block of a part."""
        contest = self.inquiry.contest
        _, _, subs = self.asked.parts[part]
        return contest.number_of(contest.read(shown[1])) in subs[sub]

    def strike_faulty(self, told):
        """Strikes those whose answers are not good, and says whether there is one."""
        faulty = [(person, fault) for person, (_, fault) in told.items() if fault != ""]
        for person, fault in faulty:
            self.strike(person, fault)
        return faulty != []

    def strike(self, person, why):
        """Strikes a person who was heard."""
        self.inquiry.strike(person, why)
        del self.sheets[person]

    def taken_rows(self):
        """The tuple of the rows of the due parts that are taken."""
        sheets = list(self.sheets.values())
        if sheets:
            return sheets[0]
        # Nobody is heard, and the first sub-blocks get all.
        found = []
        for part, size in zip(self.due_parts, self.due_sizes):
            _, _, subs = self.asked.parts[part]
            found.append((size,) + (0,) * (len(subs) - 1))
        return tuple(found)
