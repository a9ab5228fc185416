"""The way of a count through the statements of a rule."""

from soleheld.statements import rounds_of


class Frame:
    """A list of statements that is being done once, or several times over."""

    def __init__(self, word, name, statements, rounds):
        self.word = word
        self.name = name
        self.statements = statements
        self.rounds = rounds
        self.rounds_done = 0
        self.at = 0

    def take(self):
        """The next statement, None behind the last one of the last round."""
        if self.at == len(self.statements):
            self.at = 0
            self.rounds_done += 1
        if self.rounds_done >= self.rounds or self.statements == ():
            return None
        self.at += 1
        return self.statements[self.at - 1]

    def twin(self):
        """An independent frame in the same state."""
        other = Frame(self.word, self.name, self.statements, self.rounds)
        other.rounds_done = self.rounds_done
        other.at = self.at
        return other


class Walk:
    """Tells statement by statement what comes next. The frames that are open stand from the outermost one on."""

    def __init__(self, statements, many):
        self.many = many
        self.frames = [Frame("whole", "", statements, 1)]

    def take(self):
        """The next statement, None behind the last one."""
        while self.frames:
            statement = self.frames[-1].take()
            if statement is not None:
                return statement
            self.frames.pop()
        return None

    def enter_if(self, statement, holds):
        """Goes into an if: into its first statements if its test holds, otherwise into the others."""
        self.frames.append(Frame("if", "", statement[2] if holds else statement[3], 1))

    def enter_each(self, statement):
        """Goes into an each."""
        self.frames.append(Frame("each", statement[1], statement[2], self.many))

    def enter_times(self, statement):
        """Goes into a times."""
        self.frames.append(Frame("times", "", statement[2], rounds_of(statement, self.many)))

    def leave(self):
        """Goes behind the innermost times."""
        while self.frames[-1].word != "times":
            self.frames.pop()
        self.frames.pop()

    def candidate_of(self, name):
        """The number of the candidate for which the each with a name is being done."""
        return [frame.rounds_done for frame in self.frames if frame.name == name][-1]

    def twin(self):
        """An independent walk in the same state."""
        other = Walk((), self.many)
        other.frames = [frame.twin() for frame in self.frames]
        return other
