"""Variants of a roll: how its ballots may be changed, and the courses to which this leads."""

from soleheld.answers import AnswerWalk, Cell
from soleheld.leading import begun


class Ground:
    """A roll of which some ballots may be changed, with free ballots behind it."""

    def __init__(self, contest, roll, free, only):
        self.contest = contest
        self.ballots = tuple(roll)
        self.free = free
        self.numbers = [contest.number_of(marking) for marking in roll]
        self.stays = [only is not None and ballot not in only for ballot in range(len(roll))]
        many = len(contest.markings())
        self.owns = [0] * many
        self.fixes = [0] * many
        for number, stays in zip(self.numbers, self.stays):
            self.owns[number] += 1
            if stays:
                self.fixes[number] += 1

    def cells_of(self, parts):
        """The list of the cells of the answers to a question with these parts."""
        found = []
        for part, (_, _, subs) in enumerate(parts):
            owns = [sum([self.owns[number] for number in sub]) for sub in subs]
            fixes = [sum([self.fixes[number] for number in sub]) for sub in subs]
            found.extend([Cell(part, owns[at:], fixes[at:]) for at in range(len(subs))])
        return found

    def filled_roll(self, piles):
        """The tuple of the ballots of the variant in which as many stay as the sizes of these blocks allow."""
        room = [pile.size for pile in piles]
        places = {number: at for at, pile in enumerate(piles) for number in pile.numbers}
        kept = [False] * len(self.ballots)
        # Those that must stay come first, and take the room of the others.
        for stays in (True, False):
            for ballot, number in enumerate(self.numbers):
                if self.stays[ballot] == stays and room[places[number]] > 0:
                    room[places[number]] -= 1
                    kept[ballot] = True
        return self.with_fillers(kept, fillers_of(self.contest, piles, room))

    def with_fillers(self, kept, fillers):
        """The tuple of the ballots that are kept, with the fillers in the places of the others and behind them."""
        found = []
        used = 0
        for ballot, stays in zip(self.ballots, kept):
            if stays:
                found.append(ballot)
            else:
                found.append(fillers[used])
                used += 1
        return tuple(found + fillers[used:])


def fillers_of(contest, piles, room):
    """The list of the least markings of blocks, each as many times as there is room in its block."""
    markings = contest.markings()
    return [markings[pile.numbers[0]] for pile, many in zip(piles, room) for _ in range(many)]


class Stand:
    """A course at a question or at its end, the answers that led to it, and how many more ballots may be changed."""

    def __init__(self, ground, leading, replies, budget):
        self.ground = ground
        self.leading = leading
        self.replies = replies
        self.budget = budget
        self.walk_on = None
        if leading.asked is not None:
            self.walk_on = AnswerWalk(ground.cells_of(leading.asked.parts), leading.split_sizes(), budget)

    def has_ended(self):
        """Whether the course is at its end."""
        return self.leading.asked is None

    def behind(self, answer):
        """The stand behind the present answer of the walk."""
        leading = self.leading.twin()
        leading.lead_on(answer)
        return Stand(self.ground, leading, (*self.replies, answer), self.walk_on.budget_left())


class VariantWalk:
    """Goes through all ends of courses whose sizes are those of a variant, in the order of their answers."""

    def __init__(self, ground, changed):
        leading = begun(ground.contest, len(ground.ballots) + ground.free)
        self.stands = [Stand(ground, leading, (), changed)]

    def take(self):
        """The stand at the next end, None behind the last one."""
        while self.stands:
            stand = self.stands.pop()
            if stand.has_ended():
                return stand
            answer = stand.walk_on.take()
            if answer is not None:
                self.stands.append(stand)
                self.stands.append(stand.behind(answer))
        return None
