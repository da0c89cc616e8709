"""Programs: the greatest mean of a goal under the mixes that leave the mean of no row below 0."""

from everyhint.errors import BadRows
from everyhint.ratios import lowest, ratio
from everyhint.shapes import is_list, is_positive, is_row, is_weights


class Table:
    """The equations of a program, on the way to the least bound of the goal.

    The bound is an unknown, and so are an amount for each row, numbered from 0, and behind them a
    slack for each index: the bound, minus the integer of the goal, minus the sum of the amounts
    times the integers of the rows. Amounts and slacks are to be at least 0, the bound as low as
    possible. At each time some of them are free and now 0; each other one is bound by a line: its
    number for each free one and then a constant, all of them to be divided by the unit.
    """

    def __init__(self, rows, goal):
        # No slack is below 0 at the start, because the bound is the greatest integer of the goal.
        top = goal.index(max(goal))
        below = [index for index in range(len(goal)) if index != top]
        self.unit = 1
        self.free = list(range(len(rows))) + [len(rows) + top]
        self.tied = [len(rows) + index for index in below]
        self.bound = [row[top] for row in rows] + [1, goal[top]]
        self.lines = [first_line(rows, goal, top, index) for index in below]

    def entering(self):
        """The column of the first free unknown that lowers the bound if it grows, or None."""
        found = [unknown for unknown, factor in zip(self.free, self.bound) if factor < 0]
        # With the least number here and in leaving (Bland's rule) no state comes back, even if the
        # bound stays as it is.
        return self.free.index(min(found)) if found else None

    def leaving(self, column):
        """The place of the line that first falls to 0 if the unknown of a column grows, or None."""
        best = None
        for at, line in enumerate(self.lines):
            if line[column] < 0 and (best is None or self.is_sooner(at, best, column)):
                best = at
        return best

    def is_sooner(self, at, best, column):
        """Whether one line falls to 0 before another one, or with it and has the lesser number."""
        one = self.lines[at][-1] * self.lines[best][column]
        other = self.lines[best][-1] * self.lines[at][column]
        # The factors in the column are below 0, so the lesser quotient has the greater product.
        return one > other or (one == other and self.tied[at] < self.tied[best])

    def exchange(self, at, column):
        """Tie the unknown of a column, and free the one of a line."""
        used = self.lines[at]
        lines = [replaced(line, used, column, self.unit) for line in self.lines]
        self.bound = replaced(self.bound, used, column, self.unit)
        lines[at] = used[:column] + [-self.unit] + used[column + 1:]
        self.lines = lines
        self.unit = -used[column]
        self.free[column], self.tied[at] = self.tied[at], self.free[column]


def first_line(rows, goal, top, index):
    """The line of the slack of an index, as long as the slack of the index top is free."""
    return [row[top] - row[index] for row in rows] + [1, goal[top] - goal[index]]


def replaced(line, used, column, unit):
    """A line in which the unknown of a column is replaced by what the used line says of it."""
    factor = line[column]
    next_unit = -used[column]
    # No division leaves a remainder: all numbers are determinants of the integers at the start.
    found = [(mine * next_unit + theirs * factor) // unit for mine, theirs in zip(line, used)]
    found[column] = -factor
    return found


def greatest(rows, goal):
    """The greatest mean of the goal under an allowed mix, or that no mix is allowed, with evidence."""
    check_program(rows, goal)
    table = Table(rows, goal)
    column = table.entering()
    while column is not None:
        at = table.leaving(column)
        if at is None:
            return ("none", endless_amounts(table, column, len(rows)))
        table.exchange(at, column)
        column = table.entering()
    return best_answer(table, len(rows), len(goal))


def best_answer(table, rows, many):
    """The answer for a table whose bound cannot be lowered, for so many rows and indices."""
    # The bound is the value plus the sum, over the slacks, of the integer in the mix times the
    # slack, plus the sum of the amounts times the means of the rows.
    mix = lowest(numbers_of(table.free, table.bound, rows, many))
    constants = [line[-1] for line in table.lines]
    scale, *amounts = lowest([table.unit] + numbers_of(table.tied, constants, 0, rows))
    return ("best", mix, ratio(table.bound[-1], table.unit), scale, amounts)


def endless_amounts(table, column, rows):
    """The amounts that grow together without end while the bound falls."""
    unknowns = table.tied + [table.free[column]]
    factors = [line[column] for line in table.lines] + [table.unit]
    return lowest(numbers_of(unknowns, factors, 0, rows))


def numbers_of(owners, numbers, first, many):
    """The numbers of so many owners (unknowns, moves), from the first one on; 0 for those that have none."""
    found = dict(zip(owners, numbers))
    return [found.get(first + index, 0) for index in range(many)]


def check_program(rows, goal):
    """Raise BadRows unless the goal and the rows are lists of integers, one or more, as many each."""
    if not is_list(goal) or len(goal) == 0 or not is_row(goal, len(goal)):
        raise BadRows()
    if not is_list(rows) or not all([is_row(row, len(goal)) for row in rows]):
        raise BadRows()


def is_answer(rows, goal, answer):
    """Whether an answer is right, apart from common divisors."""
    check_program(rows, goal)
    if len(answer) == 2 and answer[0] == "none":
        return shows_none(rows, goal, answer[1])
    if len(answer) == 5 and answer[0] == "best":
        _, mix, value, scale, amounts = answer
        return is_attained(rows, goal, mix, value) and is_bound(rows, goal, value, scale, amounts)
    return False


def shows_none(rows, goal, amounts):
    """Whether amounts show that no mix is allowed."""
    return is_amounts(rows, amounts) and all([each < 0 for each in sums(rows, amounts, len(goal))])


def is_attained(rows, goal, mix, value):
    """Whether a mix is allowed and has a value as the mean of the goal."""
    if not is_weights(mix, len(goal)) or any([weighted(row, mix) < 0 for row in rows]):
        return False
    return ratio(weighted(goal, mix), sum(mix)) == value


def is_bound(rows, goal, value, scale, amounts):
    """Whether a scale and amounts show that no allowed mix has a mean above a value."""
    if not is_positive(scale) or not is_amounts(rows, amounts):
        return False
    top, bottom = value
    found = [number * scale + each for number, each in zip(goal, sums(rows, amounts, len(goal)))]
    return all([each * bottom <= scale * top for each in found])


def is_amounts(rows, amounts):
    """Whether a value is a list of an integer of at least 0 for each row."""
    return is_row(amounts, len(rows)) and all([each >= 0 for each in amounts])


def sums(rows, amounts, many):
    """For each of so many indices the sum over the rows of the amount times the integer."""
    return [sum([amount * row[index] for row, amount in zip(rows, amounts)]) for index in range(many)]


def weighted(row, mix):
    """The sum of the integers of a row, each multiplied by that of the mix."""
    return sum([number * weight for number, weight in zip(row, mix)])
