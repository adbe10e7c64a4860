"""Two sides of one system of sums: numbers from 0 on that fulfil it, or numbers of its rows that bar them.

A row tells the factors of the unknown numbers, and a goal what they are to come to. All is done in integers:
each number of a system stands for itself divided by the scale.
"""


class System:
    """A system of rows and goals, worked on until either side of it can be read off.

    Each row has got a column of its own behind those of the unknowns, and its goal at its end. The gap is what
    the rows still lack: as long as an unknown of its own can make it less, one takes the place of a row's column.
    """

    def __init__(self, rows, goals, width):
        self.width = width
        self.scale = 1
        self.signs = [-1 if goal < 0 else 1 for goal in goals]
        self.base = [width + at for at in range(len(rows))]
        self.rows = [
            [sign * factor for factor in row] + [int(at == own) for own in range(len(rows))] + [sign * goal]
            for at, (sign, row, goal) in enumerate(zip(self.signs, rows, goals))
        ]
        self.gap = [sum([row[column] for row in self.rows]) for column in range(width)]
        self.gap.extend([0 for _ in rows])
        self.gap.append(sum([row[-1] for row in self.rows]))
        self.close_gap()

    def close_gap(self):
        """Lets unknowns in until none of them makes the gap less."""
        column = self.column_to_enter()
        while column is not None:
            self.enter(column, self.row_to_leave(column))
            column = self.column_to_enter()

    def column_to_enter(self):
        """The first unknown that makes the gap less, None if there is none."""
        # To take the first one, here and where rows are equal, is what keeps this from going round for ever.
        return min([column for column in range(self.width) if self.gap[column] > 0], default=None)

    def row_to_leave(self, column):
        """The number of the row that comes to its goal first when the unknown grows."""
        found = None
        for at, row in enumerate(self.rows):
            if row[column] > 0 and (found is None or self.is_ahead(at, found, column)):
                found = at
        return found

    def is_ahead(self, at, other, column):
        """Whether the one row leaves the base rather than the other one."""
        one = self.rows[at][-1] * self.rows[other][column]
        two = self.rows[other][-1] * self.rows[at][column]
        return one < two or (one == two and self.base[at] < self.base[other])

    def enter(self, column, at):
        """Puts the unknown into the base in the place of what the row had there."""
        chosen = self.rows[at]
        self.rows = [
            row if number == at else self.without(column, row, chosen)
            for number, row in enumerate(self.rows)
        ]
        self.gap = self.without(column, self.gap, chosen)
        self.base[at] = column
        self.scale = chosen[column]

    def without(self, column, row, chosen):
        """The row less the chosen one so often that nothing is left in the column."""
        # The old scale divides each of these numbers: all of them are determinants of the first rows.
        return [
            (number * chosen[column] - row[column] * other) // self.scale
            for number, other in zip(row, chosen)
        ]

    def solution(self):
        """The numbers of the unknowns, each times the scale; None if there are none."""
        if self.gap[-1] > 0:
            return None
        found = {column: row[-1] for column, row in zip(self.base, self.rows)}
        return [found.get(column, 0) for column in range(self.width)]

    def barring(self):
        """Numbers of the rows with which no unknown has a sum below 0, but the goals have; None if there are none."""
        if self.gap[-1] == 0:
            return None
        own = self.gap[self.width:-1]
        return [-sign * (number + self.scale) for sign, number in zip(self.signs, own)]
