"""Which pushes a jig bears, with which weights, and how far they may grow ([33] to [35])."""
from sevenpins.balances import balance_or_move, balance_table, columns_of, opposite, order_of_rows, ways_of
from sevenpins.errors import InvalidIndex, InvalidLot
from sevenpins.ratios import ONE, ZERO, is_above, ratio_sum
from sevenpins.screws import check_screw, is_screw
from sevenpins.systems import numbers_of
from sevenpins.tables import Table
from sevenpins.touches import all_rows, check_jig
from sevenpins.triples import is_whole
from sevenpins.vectors import vector_dot, vector_sum

MOST_IN_A_LOT = 6


def check_lot(lot):
    if not isinstance(lot, tuple) or not lot:
        raise InvalidLot(None)
    for index, push in enumerate(lot):
        if index == MOST_IN_A_LOT or not is_screw(push):
            raise InvalidLot(index)


def check_row_index(jig, index):
    if not is_whole(index) or not 0 <= index < len(all_rows(jig)):
        raise InvalidIndex(index)


def bears(jig, push):
    return balance_or_move(all_rows(jig), push)[0] is not None


def is_borne(jig, push):
    """Whether the jig bears the push."""
    check_jig(jig)
    check_screw(push)
    return bears(jig, push)


def bearing_weights(jig, push):
    """A balance of the push, None if it is not borne."""
    check_jig(jig)
    check_screw(push)
    weights, _ = balance_or_move(all_rows(jig), push)
    return None if weights is None else tuple(weights)


def breaking_move(jig, push):
    """A move that is left on which the power of the push is above 0, None if the push is borne."""
    check_jig(jig)
    check_screw(push)
    return balance_or_move(all_rows(jig), push)[1]


def are_all_borne(jig, lot):
    """Whether the jig bears all pushes of the lot."""
    check_jig(jig)
    check_lot(lot)
    return all(bears(jig, push) for push in lot)


def weight_ends(table, place):
    """The least and the greatest weight of the column at this place, None for without end.

    The table has weights that meet its equations.
    """
    ends = []
    for sign in (1, -1):
        costs = [(sign, 1) if at == place else ZERO for at in range(table.many)]
        ends.append(table.weights()[place] if table.make_least(costs) else None)
    return tuple(ends)


def factors_for(rows, push, other):
    """The least and the greatest f from 0 on for which the push plus f times the other one is borne."""
    columns = columns_of(rows) + [numbers_of(other)]
    table = Table(columns, numbers_of(opposite(push)), ways_of(rows) + [False])
    return None if table.barrier() is not None else weight_ends(table, len(rows))


def times_range(jig, push, other):
    """The least and the greatest f, None for without end, for which the push plus f times the other one is borne."""
    check_jig(jig)
    check_screw(push)
    check_screw(other)
    return factors_for(all_rows(jig), push, other)


def met_ranges(first, second):
    """What two ranges have in common, None for nothing; the greatest numbers may be None, for without end."""
    low = second[0] if is_above(second[0], first[0]) else first[0]
    high = first[1]
    if high is None or (second[1] is not None and is_above(high, second[1])):
        high = second[1]
    return None if high is not None and is_above(low, high) else (low, high)


def clamp_range(jig, clamp, lot):
    """The least and the greatest f for which f times the clamp plus each push of the lot is borne; None for no f."""
    check_jig(jig)
    check_screw(clamp)
    check_lot(lot)
    rows, found = all_rows(jig), (ZERO, None)
    for push in lot:
        told = factors_for(rows, push, clamp)
        found = None if told is None else met_ranges(found, told)
        if found is None:
            return None
    return found


def weight_range(jig, push, index):
    """The least and the greatest weight of the row over all balances, None for without end; None for no balance."""
    check_jig(jig)
    check_screw(push)
    check_row_index(jig, index)
    table = balance_table(all_rows(jig), push)
    return None if table.barrier() is not None else weight_ends(table, index)


def are_alone(rows, weights):
    """Whether the weights are the only balance of what they balance."""
    stuck = [not both and weight[0] == 0 for (_, both), weight in zip(rows, weights)]
    moving = [row for row, is_stuck in zip(rows, stuck) if not is_stuck]
    if order_of_rows(moving) < len(moving):
        return False
    # Another balance differs by a sum that makes 0, in which the weights that are 0 now do not go down.
    columns = [
        numbers_of(push) + ((ONE,) if is_stuck else (ZERO,)) for (push, _), is_stuck in zip(rows, stuck)
    ]
    return Table(columns, (ZERO,) * 6 + (ONE,), [not is_stuck for is_stuck in stuck]).barrier() is not None


def is_settled(jig, push):
    """Whether the push has just one balance."""
    check_jig(jig)
    check_screw(push)
    rows = all_rows(jig)
    weights, _ = balance_or_move(rows, push)
    return weights is not None and are_alone(rows, weights)


def greatest_sum(pushes, prices):
    """The sum of the pushes, told by six numbers each, that is worth most at these prices, and what it is worth."""
    total, worth = (ZERO,) * 6, ZERO
    for push in pushes:
        own = vector_dot(push, prices)
        if own[0] > 0:
            total, worth = vector_sum(total, push), ratio_sum(worth, own)
    return total, worth


def least_greatest(jig, push):
    """The least number from 0 on that no weight of some balance is above, nor its opposite for rows both ways."""
    check_jig(jig)
    check_screw(push)
    rows = all_rows(jig)
    pushes = columns_of(rows)
    pushes += [numbers_of(opposite(told)) for told, both in rows if both]
    table = Table(pushes, numbers_of(opposite(push)), [False] * len(pushes))
    if table.barrier() is not None:
        return None
    # Weights up to m make m times what weights up to 1 make. So each sum of different pushes is a column of the
    # cost 1, and the least sum of costs is asked for; only those columns are added that make it less.
    table.make_least([ONE] * len(pushes))
    while True:
        column, worth = greatest_sum(pushes, table.prices())
        if not is_above(worth, ONE):
            return total_of(table.weights())
        table.add_column(column, 1)
        table.improve()


def total_of(fractions):
    total = ZERO
    for fraction in fractions:
        total = ratio_sum(total, fraction)
    return total
