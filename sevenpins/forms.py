"""Quadratic forms with whole numbers, brought to sums of squares; what is passed is not checked here.

A form is told by its matrix, a list of rows that is the same when rows and columns are exchanged.
"""
from sevenpins.ratios import without_common


def form_at(matrix, first, second):
    """The number that the form makes of two rows."""
    total = 0
    for number, row in zip(first, matrix):
        if number != 0:
            total += number * sum(part * other for part, other in zip(row, second))
    return total


def parted_lead(matrix, rows):
    """A row at which the form is not 0 and the rows that are left beside it; (None, rows) if there is none."""
    for at, row in enumerate(rows):
        if form_at(matrix, row, row) != 0:
            return row, rows[:at] + rows[at + 1:]
    for at, row in enumerate(rows):
        for other in rows[at + 1:]:
            if form_at(matrix, row, other) != 0:
                # The form is 0 at both, so at their sum it is twice what it makes of the two.
                return [a + b for a, b in zip(row, other)], rows[:at] + rows[at + 1:]
    return None, rows


def squares(matrix):
    """Pairs (NUMBER, ROW): rows that make all rows, of any two of which the form makes 0, and the form at each."""
    size = len(matrix)
    rest = [[1 if place == at else 0 for place in range(size)] for at in range(size)]
    found = []
    while rest:
        lead, rest = parted_lead(matrix, rest)
        if lead is None:
            return found + [(0, row) for row in rest]
        worth = form_at(matrix, lead, lead)
        found.append((worth, lead))
        rest = [beside(matrix, row, lead, worth) for row in rest]
    return found


def beside(matrix, row, lead, worth):
    """A multiple of the row less one of the lead row, of which together with the lead row the form makes 0."""
    both = form_at(matrix, row, lead)
    return without_common([worth * number - both * part for number, part in zip(row, lead)])


def signs_of(matrix):
    """How many squares have numbers above, at and below 0."""
    numbers = [number for number, _ in squares(matrix)]
    above = len([number for number in numbers if number > 0])
    below = len([number for number in numbers if number < 0])
    return (above, len(numbers) - above - below, below)
