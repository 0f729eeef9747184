"""Rows that push, one way or both ways, and weights that balance a push; what is passed is not checked here."""
from sevenpins.ratios import ONE, ratio_sum
from sevenpins.rows import stairs
from sevenpins.screws import power, screw_sum, screw_times
from sevenpins.systems import numbers_of, row_of
from sevenpins.tables import Table
from sevenpins.vectors import NOUGHT


def pushes_of(rows):
    return [push for push, _ in rows]


def ways_of(rows):
    """For each row whether it pushes both ways."""
    return [both for _, both in rows]


def is_left_by(rows, move):
    """Whether the move has a power from 0 on on each row one way and 0 on each row both ways."""
    for push, both in rows:
        worth = power(push, move)[0]
        if worth < 0 or (both and worth != 0):
            return False
    return True


def opposite(screw):
    return screw_times(screw, (-1, 1))


def screw_total(screws):
    total = (NOUGHT, NOUGHT)
    for screw in screws:
        total = screw_sum(total, screw)
    return total


def balance_table(rows, push):
    """The table for the weights that make the opposite of the push."""
    columns = [numbers_of(told) for told in pushes_of(rows)]
    return Table(columns, numbers_of(opposite(push)), ways_of(rows))


def balance_or_move(rows, push):
    """A pair: weights that make the opposite of the push, or else a left move on which its power is above 0."""
    table = balance_table(rows, push)
    barrier = table.barrier()
    if barrier is None:
        return table.weights(), None
    # The told equations with these numbers leave each row a power from 0 on, the opposite of the push one below 0.
    numbers = tuple((number, 1) for number in barrier[table.many + 1:])
    return None, (numbers[3:], numbers[:3])


def one_way_total(rows):
    return screw_total([push for push, both in rows if not both])


def full_weights_or_move(rows):
    """A pair: weights, above 0 for the rows one way, that make 0, or else a left move with a power above 0 on one."""
    weights, move = balance_or_move(rows, one_way_total(rows))
    if weights is None:
        return None, move
    return [weight if both else ratio_sum(weight, ONE) for weight, both in zip(weights, ways_of(rows))], None


def order_of_rows(rows):
    return len(stairs([row_of(push) for push in pushes_of(rows)]))


def do_hold(rows):
    """Whether no move but 0 is left."""
    return order_of_rows(rows) == 6 and full_weights_or_move(rows)[0] is not None
