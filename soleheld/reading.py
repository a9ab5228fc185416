"""How the text of a rule is read, line by line."""

from soleheld.errors import BadRule
from soleheld.forms import read_form
from soleheld.lines import Line
from soleheld.statements import changed_names, read_names, read_statement, row_names

HEADS = ("rule", "form", "seats", "row", "num", "begin")
MOST_LINES = 120
MOST_SEATS = 5
MOST_ROWS = 8
MOST_NUMS = 12
MOST_BLOCKS = 8


class Block:
    """An if, each or times whose end has not come yet, or the whole of the statements."""

    def __init__(self, start):
        self.start = start
        self.statements = []
        self.others = []
        self.has_else = False

    def put(self, statement):
        """Adds a statement at its present place."""
        if self.has_else:
            self.others.append(statement)
        else:
            self.statements.append(statement)

    def whole(self):
        """The whole statement."""
        if self.start[0] == "if":
            return (*self.start, tuple(self.statements), tuple(self.others))
        return (*self.start, tuple(self.statements))


class Reading:
    """What has been read of a rule so far."""

    def __init__(self):
        self.word = ""
        self.form = None
        self.seats = 0
        self.rows = []
        self.nums = []
        self.heads = 0
        self.opened = [Block(("whole",))]

    def take_line(self, line):
        """Reads a line that has tokens."""
        if self.heads < len(HEADS):
            self.take_head(line)
        else:
            self.take_statement(line)

    def take_head(self, line):
        """Reads the next one of the first lines."""
        word = HEADS[self.heads]
        line.expect(word)
        if word == "rule":
            self.word = line.take_name()
        elif word == "form":
            self.take_form(line)
        elif word == "seats":
            self.seats = line.take_number(1, MOST_SEATS)
        elif word == "row":
            self.rows = self.new_names(line, MOST_ROWS)
        elif word == "num":
            self.nums = self.new_names(line, MOST_NUMS)
        line.finish()
        self.heads += 1

    def take_form(self, line):
        """Reads what stands behind the word `form`."""
        words = []
        while line.ahead() != "":
            words.append(line.take())
        self.form = read_form(" ".join(words))
        if self.form is None:
            raise BadRule(line.number, "form")

    def new_names(self, line, most):
        """Reads the names of the variables of one kind."""
        names = line.take_names()
        if len(names) > most:
            raise BadRule(line.number, "many")
        for at, name in enumerate(names):
            if name in names[:at] or name in self.rows:
                raise BadRule(line.number, "double")
        return names

    def take_statement(self, line):
        """Reads the line of a statement, or an else or end."""
        head = read_statement(line)
        self.check_place(head, line)
        self.check_names(head, line)
        if head == ("leave",) and not any([block.start[0] == "times" for block in self.opened]):
            raise BadRule(line.number, "leave")
        self.put(head)

    def check_place(self, head, line):
        """Refuses an else or end at which nothing fits is open, and a block within too many."""
        innermost = self.opened[-1]
        if head == ("else",) and (innermost.start[0] != "if" or innermost.has_else):
            raise BadRule(line.number, "form")
        if head == ("end",) and not self.is_open():
            raise BadRule(line.number, "form")
        if opens_block(head) and len(self.opened) > MOST_BLOCKS:
            raise BadRule(line.number, "deep")

    def check_names(self, head, line):
        """Refuses an each with a name that is taken, and names that mean nothing here."""
        eaches = [block.start[1] for block in self.opened if block.start[0] == "each"]
        taken = [*self.rows, *self.nums, *eaches]
        if head[0] == "each" and head[1] in taken:
            raise BadRule(line.number, "double")
        known = all([name in self.rows for name in row_names(head)])
        known = known and all([name in self.nums for name in changed_names(head)])
        known = known and all([name in self.nums or name in eaches for name in read_names(head)])
        if not known:
            raise BadRule(line.number, "unknown")

    def put(self, head):
        """Puts what a line says to the statements."""
        innermost = self.opened[-1]
        if opens_block(head):
            self.opened.append(Block(head))
        elif head == ("else",):
            innermost.has_else = True
        elif head == ("end",):
            self.opened.pop()
            self.opened[-1].put(innermost.whole())
        else:
            innermost.put(head)

    def is_open(self):
        """Whether some if, each or times has no end yet."""
        return len(self.opened) > 1

    def is_complete(self):
        """Whether the text may end here."""
        return self.heads == len(HEADS) and not self.is_open()

    def all_statements(self):
        """The statements that were read, when all have ended."""
        return tuple(self.opened[0].statements)


def opens_block(head):
    """Whether a line opens an if, each or times."""
    return head[0] in ("if", "each", "times")


def read_lines(text):
    """The reading of a whole text."""
    if not isinstance(text, str):
        raise BadRule(0, "form")
    pieces = text.split("\n")
    feeds = len(pieces) - 1
    reading = Reading()
    for number, piece in enumerate(pieces):
        # Behind the last line feed there is no line, unless something stands there.
        if number == feeds and piece == "":
            break
        if number == MOST_LINES:
            raise BadRule(number, "long")
        if number == feeds:
            raise BadRule(number, "form")
        line = Line(number, piece)
        if not line.is_empty():
            reading.take_line(line)
    if not reading.is_complete():
        raise BadRule(feeds, "missing")
    return reading
