"""Weights by which a wave is added of a box, or a wave that bars it: always one of both.

A row is a list of whole numbers: the products of some wave with each wave of the box,
then its product with the wave that is to be added, then its own numbers. What is done
to rows is done to their waves: they are added, and multiplied by numbers above 0.
"""

from math import gcd, lcm

from framecams.ratios import NOUGHT, ratio
from framecams.waves import made_wave


class Table:
    """Rows that are each solved for another wave of the box.

    A row that is solved for a wave of the box has the product `size`, above 0, with it, and
    all the other rows have the product 0 with it. So all numbers of the rows are minors of
    those of the first rows, and what is divided here has no rest (Bareiss 1968).
    """

    def __init__(self, many):
        self.many = many
        self.size = 1
        self.rows = []
        self.solved = []

    def cleared(self, first):
        """The row, multiplied, less the share of all others: its products are 0 wherever one of them is solved."""
        row = [self.size * number for number in first]
        for by, column in zip(self.rows, self.solved):
            less = first[column]
            row = [number - less * other for number, other in zip(row, by)]
        return row

    def solve(self, told, column):
        """Take in a cleared row, and solve it for this wave of the box, with which its product is not 0."""
        row = told if told[column] > 0 else opposite_row(told)
        size = row[column]
        rows = []
        for kept in self.rows:
            less = kept[column]
            rows.append([(size * one - less * other) // self.size for one, other in zip(kept, row)])
        self.rows = rows + [row]
        self.solved = self.solved + [column]
        self.size = size

    def change(self, at, column):
        """Solve the row with this index for another wave of the box, with which its product is not 0."""
        row = self.rows[at]
        self.rows = self.rows[:at] + self.rows[at + 1:]
        self.solved = self.solved[:at] + self.solved[at + 1:]
        self.solve(row, column)

    def weights(self):
        """The fractions that add the waves for which rows are solved to the wave, 0 for all others."""
        found = [NOUGHT] * self.many
        for row, column in zip(self.rows, self.solved):
            found[column] = ratio(row[self.many], self.size)
        return found


def opposite_row(row):
    """The row of the opposite wave."""
    return [-number for number in row]


def primitive_row(row):
    """The row divided by the greatest whole number that divides all of it."""
    shared = 0
    for number in row:
        shared = gcd(shared, number)
    return [number // shared for number in row]


def numbers_of(wave, most):
    """The fractions of the wave in a row, with so many harmonics."""
    first, pairs = wave
    told = [first] + [number for pair in pairs for number in pair]
    return told + [NOUGHT] * (2 * most + 1 - len(told))


def first_rows(box, wave):
    """The rows of the waves with just one number that is not 0, multiplied so that they are whole."""
    waves = list(box) + [wave]
    most = max([len(told[1]) for told in waves])
    sides = [numbers_of(told, most) for told in waves]
    found = []
    for at, fractions in enumerate(zip(*sides)):
        size = 1
        for fraction in fractions:
            size = lcm(size, fraction[1])
        own = [0] * (2 * most + 1)
        own[at] = size
        found.append(primitive_row([n * (size // m) for n, m in fractions] + own))
    return found


def wave_of_row(row, many):
    """The wave to which the row belongs, for a box of so many waves, multiplied so that its numbers are small."""
    own = [(number, 1) for number in primitive_row(row[many + 1:])]
    return made_wave(own[0], list(zip(own[1::2], own[2::2])))


def settled(box, wave):
    """The table of weights by which the wave is added, and None; or None and a barring wave."""
    many = len(box)
    table = Table(many)
    for first in first_rows(box, wave):
        row = table.cleared(first)
        columns = [column for column in range(many) if row[column] != 0]
        if len(columns) > 0:
            table.solve(row, columns[0])
        elif row[many] != 0:
            # Its product is 0 with all waves of the box.
            return (None, wave_of_row(row if row[many] < 0 else opposite_row(row), many))
    return improved(table)


def improved(table):
    """Like settled, for a table that has as many rows as may be.

    A row that tells a weight below 0 bars the wave, or it can be solved for another wave
    of the box. With the first one of those that may go, and the first one of those that
    may come, no table comes again (Bland 1977).
    """
    many = table.many
    while True:
        below = [column for row, column in zip(table.rows, table.solved) if row[many] < 0]
        if len(below) == 0:
            return (table, None)
        at = table.solved.index(min(below))
        row = table.rows[at]
        columns = [column for column in range(many) if row[column] < 0]
        if len(columns) == 0:
            return (None, wave_of_row(row, many))
        table.change(at, columns[0])


def least_weight(table, number):
    """The least weight of the wave with this index, over all weights that add up to the same wave as the table's.

    The table tells weights from 0 on, here and in what follows. As in `improved` the first
    waves that may come and go do: so no table comes again.
    """
    while number in table.solved:
        row = table.rows[table.solved.index(number)]
        columns = [column for column in range(table.many) if column != number and row[column] > 0]
        if len(columns) == 0:
            break
        table.change(tightest_row(table, columns[0]), columns[0])
    return table.weights()[number]


def greatest_weight(table, number):
    """The greatest weight of the wave with this index, over all these weights; None if there is no end."""
    columns = growing_columns(table, number)
    while len(columns) > 0:
        at = tightest_row(table, columns[0])
        if at is None:
            return None
        table.change(at, columns[0])
        columns = growing_columns(table, number)
    return table.weights()[number]


def growing_columns(table, number):
    """The indexes of the waves of which more makes the weight of this one grow, in a list."""
    if number not in table.solved:
        return [number]
    row = table.rows[table.solved.index(number)]
    return [column for column in range(table.many) if row[column] < 0]


def tightest_row(table, column):
    """The index of the row that tells first that there can't be more of the wave; None if no row does."""
    found = None
    for at, row in enumerate(table.rows):
        if row[column] > 0 and (found is None or is_tighter(table, column, at, found)):
            found = at
    return found


def is_tighter(table, column, at, other):
    """Whether the first row tells so ahead of the other one, or with it, for a wave with a lower index."""
    one, two = table.rows[at], table.rows[other]
    many = table.many
    less = one[many] * two[column] - two[many] * one[column]
    return less < 0 or less == 0 and table.solved[at] < table.solved[other]
