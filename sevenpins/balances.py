"""Rows that push, one way or both ways, and weights that balance a push; what is passed is not checked here."""
from sevenpins.ratios import ONE, as_fractions, ratio_sum
from sevenpins.rows import stairs
from sevenpins.screws import power, screw_sum, screw_times
from sevenpins.systems import numbers_of, row_of
from sevenpins.tables import Table
from sevenpins.vectors import NOUGHT, vector_times, vector_total


def pushes_of(rows):
    return [push for push, _ in rows]


def ways_of(rows):
    """For each row whether it pushes both ways."""
    return [both for _, both in rows]


def is_left_by(rows, move):
    """Whether the move has a power from 0 on on each row one way and 0 on each row both ways."""
    for push, both in rows:
        worth = power(push, move)[0]
        if worth < 0 or (both and worth != 0):
            return False
    return True


def opposite(screw):
    return screw_times(screw, (-1, 1))


def screw_total(screws):
    total = (NOUGHT, NOUGHT)
    for screw in screws:
        total = screw_sum(total, screw)
    return total


def weighed_screws(screws, weights):
    """The sum of the screws, each times its weight."""
    return screw_total([screw_times(screw, weight) for screw, weight in zip(screws, weights)])


def columns_of(rows):
    return [numbers_of(push) for push in pushes_of(rows)]


def balance_table(rows, push):
    """The table for the weights that make the opposite of the push."""
    return Table(columns_of(rows), numbers_of(opposite(push)), ways_of(rows))


def bar_of(table):
    """Numbers, one for each equation of the table, that bar weights which meet all of these; None if some do."""
    barrier = table.barrier()
    return None if barrier is None else as_fractions(barrier[table.many + 1:])


def balance_or_bar(columns, ways, numbers):
    """A pair: weights by which the columns make the opposite of the numbers, or else numbers that bar them.

    The products of what bars with each column add up to 0 or more (0 for one that goes both ways), those with the
    told numbers to more than 0.
    """
    table = Table(columns, vector_times(numbers, (-1, 1)), ways)
    bar = bar_of(table)
    return (table.weights(), None) if bar is None else (None, bar)


def full_balance_or_bar(columns, ways):
    """A pair: weights, above 0 for the columns one way, that make 0, or else numbers that bar them."""
    total = vector_total([column for column, both in zip(columns, ways) if not both], len(columns[0]))
    weights, bar = balance_or_bar(columns, ways, total)
    if weights is None:
        return None, bar
    return [weight if both else ratio_sum(weight, ONE) for weight, both in zip(weights, ways)], None


def move_barring(bar):
    """The move on which each push has as power its products with these numbers added up; None for None."""
    return None if bar is None else (bar[3:], bar[:3])


def balance_or_move(rows, push):
    """A pair: weights that make the opposite of the push, or else a left move on which its power is above 0."""
    weights, bar = balance_or_bar(columns_of(rows), ways_of(rows), numbers_of(push))
    return weights, move_barring(bar)


def full_weights_or_move(rows):
    """A pair: weights, above 0 for the rows one way, that make 0, or else a left move with a power above 0 on one."""
    weights, bar = full_balance_or_bar(columns_of(rows), ways_of(rows))
    return weights, move_barring(bar)


def order_of_rows(rows):
    return len(stairs([row_of(push) for push in pushes_of(rows)]))


def do_hold(rows):
    """Whether no move but 0 is left."""
    return order_of_rows(rows) == 6 and full_weights_or_move(rows)[0] is not None
