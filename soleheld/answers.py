"""The answers to a question that the variants of a roll give, one behind the other."""


def lack(own, size):
    """How many ballots of a block must be changed so that it has a size."""
    return max(own - size, 0)


class Cell:
    """A sub-block in an answer: how many ballots of the roll are in it, and how many of these must stay.

    Its lists go on with the sub-blocks that come behind it in its row.
    """

    def __init__(self, row, owns, fixes):
        self.row = row
        self.own = owns[0]
        self.fixed = fixes[0]
        self.own_behind = sum(owns[1:])
        self.fixed_behind = sum(fixes[1:])
        self.ends_row = len(owns) == 1

    def price(self, size, left):
        """How many changes a size needs more than the row needs anyhow, if so many ballots are left for the row."""
        anyhow = lack(self.own + self.own_behind, left)
        return lack(self.own, size) + lack(self.own_behind, left - size) - anyhow

    def sizes_within(self, left, budget):
        """The falling list of the sizes that it may have."""
        if self.ends_row:
            return [left]
        found = []
        for size in range(left - self.fixed_behind, self.fixed - 1, -1):
            if self.price(size, left) <= budget:
                found.append(size)
        return found


class Step:
    """A cell with its present size, and the sizes that come behind this one, the next one last."""

    def __init__(self, cell, left, budget):
        self.cell = cell
        self.left = left
        self.budget = budget
        self.to_come = cell.sizes_within(left, budget)
        self.size = self.to_come.pop()

    def go_on(self):
        """Takes the next size."""
        self.size = self.to_come.pop()

    def rest(self):
        """The pair of what is left of the row, and of the budget, behind the cell."""
        return (self.left - self.size, self.budget - self.cell.price(self.size, self.left))


class AnswerWalk:
    """Goes through the answers to a question in ascending order. The steps stand for the present answer."""

    def __init__(self, cells, row_sizes, budget):
        self.cells = cells
        self.row_sizes = row_sizes
        self.budget = budget
        self.steps = []

    def take(self):
        """The next answer, None behind the last one."""
        if self.steps:
            self.go_back()
            if not self.steps:
                return None
            self.steps[-1].go_on()
        while len(self.steps) < len(self.cells):
            self.steps.append(self.next_step())
        return self.present()

    def go_back(self):
        """Goes back to the last step that has another size to come."""
        while self.steps and self.steps[-1].to_come == []:
            self.steps.pop()

    def next_step(self):
        """The step behind the present ones."""
        cell = self.cells[len(self.steps)]
        if self.steps == []:
            return Step(cell, self.row_sizes[cell.row], self.budget)
        left, budget = self.steps[-1].rest()
        # Behind the end of a row the size of the next block is shared out.
        if self.steps[-1].cell.ends_row:
            left = self.row_sizes[cell.row]
        return Step(cell, left, budget)

    def present(self):
        """The present answer: the tuple of its rows."""
        rows = [[] for _ in self.row_sizes]
        for step in self.steps:
            rows[step.cell.row].append(step.size)
        return tuple([tuple(row) for row in rows])

    def budget_left(self):
        """How many more ballots may be changed behind the present answer."""
        _, budget = self.steps[-1].rest()
        return budget
