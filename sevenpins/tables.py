"""Columns of fractions summed up with weights, some of them from 0 on only; what is passed is not checked here.

A table holds the equations that weights must meet, told over a basis: in the row of each column of the basis
this column alone, of all columns of the basis, has a number other than 0, and this one is above 0. Columns are
exchanged one at a time, of all that would do always the first one, so no basis comes twice (Bland 1977).
"""
from sevenpins.ratios import ZERO, over_common, ratio


class Table:
    """Weights, one for each column, by which the columns add up to the target.

    The weights of the columns that are free may be any fractions, those of the others are from 0 on.
    """

    def __init__(self, columns, target, free):
        self.many = len(columns)
        self.free = list(free)
        self.basis = [None] * len(target)
        # What all numbers in the rows of the basis have at their own columns: it divides what an exchange makes.
        self.scale = 1
        # Columns and target are told by whole numbers, these times what they are here.
        wholes = [over_common(column) for column in columns]
        self.times = [common for _, common in wholes]
        numbers, self.times_target = over_common(target)
        self.rows = []
        for at, number in enumerate(numbers):
            # Behind the target stands how often each of the told equations is in the row.
            told = [1 if place == at else 0 for place in range(len(target))]
            self.rows.append([column[at] for column, _ in wholes] + [number] + told)
        self.cost = [0] * (self.many + 1 + len(target))
        self.times_cost = 1

    def exchange(self, at, place):
        """Takes the column at this place into the basis, by the row with this index."""
        lead = self.rows[at]
        if lead[place] < 0:
            lead = [-number for number in lead]
        for other, row in enumerate(list(self.rows)):
            self.rows[other] = lead if other == at else self.without(row, lead, place)
        self.cost = self.without(self.cost, lead, place)
        self.scale = lead[place]
        self.basis[at] = place

    def without(self, row, lead, place):
        """The row with 0 at the place, by a multiple of the lead row."""
        own, its, scale = lead[place], row[place], self.scale
        if its == 0:
            return [own * number // scale for number in row]
        return [(own * number - its * other) // scale for number, other in zip(row, lead)]

    def start(self):
        """Takes columns into the basis, free ones first, until each row that can have one has its own."""
        for place in range(self.many):
            if self.free[place]:
                self.take_in(place)
        for place in range(self.many):
            if not self.free[place]:
                self.take_in(place)

    def take_in(self, place):
        for at, row in enumerate(list(self.rows)):
            if self.basis[at] is None and row[place] != 0:
                self.exchange(at, place)
                return

    def bound_rows(self):
        """The indexes of the rows whose columns are not free, in the order of these columns."""
        found = [at for at, place in enumerate(self.basis) if place is not None and not self.free[place]]
        return sorted(found, key=lambda at: self.basis[at])

    def barrier(self):
        """Looks for weights that meet all equations: None if the basis has them now, else a row that bars them.

        In this row the numbers of free columns are 0, those of the others from 0 on, and the target is below 0.
        """
        self.start()
        for at, place in enumerate(list(self.basis)):
            if place is None and self.rows[at][self.many] != 0:
                row = self.rows[at]
                return row if row[self.many] < 0 else [-number for number in row]
        while True:
            at = self.first_below()
            if at is None:
                return None
            row = self.rows[at]
            place = self.first_place_below(row)
            if place is None:
                return row
            self.exchange(at, place)

    def aim(self, target):
        """Takes another target, for the same columns and with the basis that is there, before costs are told."""
        numbers, self.times_target = over_common(target)
        behind = self.many + 1
        for at, row in enumerate(list(self.rows)):
            worth = sum(often * number for often, number in zip(row[behind:], numbers))
            self.rows[at] = row[:self.many] + [worth] + row[behind:]

    def first_below(self):
        """The index of the first row with a weight below 0 that must not be."""
        for at in self.bound_rows():
            if self.rows[at][self.many] < 0:
                return at
        return None

    def first_place_below(self, row):
        for place in range(self.many):
            if row[place] < 0:
                return place
        return None

    def make_least(self, costs):
        """Makes the sum of the weights, each times its cost, the least one: False if it goes down without end.

        The basis has weights that meet all equations.
        """
        numbers, self.times_cost = over_common(costs)
        weighed = [self.scale * number * often for number, often in zip(numbers, self.times)]
        self.cost = weighed + [0] * (len(self.rows) + 1)
        for at, place in enumerate(list(self.basis)):
            if place is not None:
                self.cost = self.without(self.cost, self.rows[at], place)
        if any(self.free[place] and self.cost[place] != 0 for place in range(self.many)):
            return False
        return self.improve()

    def improve(self):
        """Exchanges columns until the sum of the costs is the least one: False if it goes down without end."""
        while True:
            place = self.first_place_below(self.cost)
            if place is None:
                return True
            at = self.first_stop(place)
            if at is None:
                return False
            self.exchange(at, place)

    def first_stop(self, place):
        """The index of the row that stops the weight of this column first, when it grows."""
        best = None
        for at in self.bound_rows():
            number, weight = self.rows[at][place], self.rows[at][self.many]
            if number <= 0:
                continue
            if best is None or weight * self.rows[best][place] < self.rows[best][self.many] * number:
                best = at
        return best

    def weights(self):
        found = [ZERO] * self.many
        for at, place in enumerate(self.basis):
            if place is not None:
                weight = self.rows[at][self.many] * self.times[place]
                found[place] = ratio(weight, self.rows[at][place] * self.times_target)
        return found

    def prices(self):
        """What each of the told equations adds to the sum of the costs, for each one by which its target grows."""
        below = -self.scale * self.times_cost
        return tuple(ratio(number, below) for number in self.cost[self.many + 1:])

    def add_column(self, column, cost):
        """Adds a column, not free, that is a sum of those that are there; its weight is 0, its cost a whole number."""
        numbers, common = over_common(column)
        behind = self.many + 1
        for at, row in enumerate(list(self.rows)):
            worth = sum(often * number for often, number in zip(row[behind:], numbers))
            self.rows[at] = row[:self.many] + [worth] + row[self.many:]
        worth = self.scale * self.times_cost * cost * common
        worth += sum(often * number for often, number in zip(self.cost[behind:], numbers))
        self.cost = self.cost[:self.many] + [worth] + self.cost[self.many:]
        self.times.append(common)
        self.free.append(False)
        self.many += 1
