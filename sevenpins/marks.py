"""Gauges: pins with errors, and how far marks on the work shift over all of them ([36], [37])."""
from sevenpins.errors import InvalidGauge, InvalidMark, NoMoveFits
from sevenpins.ratios import ZERO, is_above, ratio, ratio_product, ratio_sum
from sevenpins.rows import weights_for
from sevenpins.screws import check_screw, line_at, power
from sevenpins.systems import back_base, numbers_of, system_of
from sevenpins.tables import Table
from sevenpins.triples import is_direction, is_fraction, is_triple
from sevenpins.vectors import vector_times

MOST_PINS = 12


def is_spot(value):
    """Whether a value is a pair of a point and a direction."""
    return isinstance(value, tuple) and len(value) == 2 and is_triple(value[0]) and is_direction(value[1])


def is_stretch(value):
    if not isinstance(value, tuple) or len(value) != 2 or not is_fraction(value[0]) or not is_fraction(value[1]):
        return False
    return not is_above(value[0], value[1])


def is_pin(value):
    return isinstance(value, tuple) and len(value) == 3 and is_spot(value[:2]) and is_stretch(value[2])


def is_gauge(value):
    """Whether a value, whatever it is, is a gauge."""
    return isinstance(value, tuple) and 1 <= len(value) <= MOST_PINS and all(is_pin(pin) for pin in value)


def check_gauge(gauge):
    if not isinstance(gauge, tuple) or not gauge:
        raise InvalidGauge(None)
    for index, pin in enumerate(gauge):
        if index == MOST_PINS or not is_pin(pin):
            raise InvalidGauge(index)


def check_mark(mark):
    if not is_spot(mark):
        raise InvalidMark(mark)


def pin_pushes(gauge):
    return tuple(line_at(point, direction) for point, direction, _ in gauge)


def fits(gauge, move):
    for push, (_, _, (low, high)) in zip(pin_pushes(gauge), gauge):
        worth = power(push, move)
        if is_above(low, worth) or is_above(worth, high):
            return False
    return True


def fits_move(gauge, move):
    """Whether the move fits: its power on each pin is within the pin's errors."""
    check_gauge(gauge)
    check_screw(move)
    return fits(gauge, move)


def both_signs(numbers):
    """The numbers and then their opposites: weights from 0 on of both tell weights of any sign."""
    return list(numbers) + [vector_times(number, (-1, 1)) for number in numbers]


def pin_costs(gauge):
    """What a weight above 0 adds for each pin to the sum of [37], then what one below 0 adds."""
    highs = [pin[2][1] for pin in gauge]
    lows = [ratio_product(pin[2][0], (-1, 1)) for pin in gauge]
    return highs + lows


def signed_weights(weights):
    many = len(weights) // 2
    return tuple(
        ratio_sum(weights[at], ratio_product(weights[at + many], (-1, 1))) for at in range(many)
    )


def misfit_or_move(gauge):
    """A pair: fractions of [37] by which no move fits, or else a move that fits."""
    pushes = [numbers_of(push) for push in pin_pushes(gauge)]
    columns = [told + (cost,) for told, cost in zip(both_signs(pushes), pin_costs(gauge))]
    table = Table(columns, (ZERO,) * 6 + ((-1, 1),), [False] * len(columns))
    barrier = table.barrier()
    if barrier is None:
        return signed_weights(table.weights()), None
    numbers = barrier[table.many + 1:]
    # The last number is above 0; its share of the others, turned back, is from each LOW up to each HIGH.
    parts = tuple(ratio(-number, numbers[6]) for number in numbers[:6])
    return None, (parts[3:], parts[:3])


def fitting_move(gauge):
    """A move that fits, None if there is none."""
    check_gauge(gauge)
    return misfit_or_move(gauge)[1]


def misfit_weights(gauge):
    """Fractions, one for each pin, by which no move fits; None if one does."""
    check_gauge(gauge)
    return misfit_or_move(gauge)[0]


def errors_fit(gauge, value):
    """Whether a value, whatever it is, is a tuple of fractions that are the powers of the pins in some move."""
    check_gauge(gauge)
    if not isinstance(value, tuple) or len(value) != len(gauge) or not all(is_fraction(part) for part in value):
        return False
    columns = [numbers_of(push) for push in pin_pushes(gauge)]
    return weights_for([[column[at] for column in columns] for at in range(6)], value) is not None


def shares_for(gauge, mark):
    pushes = [numbers_of(push) for push in pin_pushes(gauge)]
    return weights_for(pushes, numbers_of(line_at(mark[0], mark[1])))


def is_settled_mark(gauge, mark):
    """Whether the mark's push is a weighed sum of those of the pins."""
    check_gauge(gauge)
    check_mark(mark)
    return shares_for(gauge, mark) is not None


def mark_shares(gauge, mark):
    """Shares of the mark, None if it is not settled."""
    check_gauge(gauge)
    check_mark(mark)
    shares = shares_for(gauge, mark)
    return None if shares is None else tuple(shares)


def blind_move(gauge, mark):
    """A move that shifts the mark, but has power 0 on all pins; None if the mark is settled."""
    check_gauge(gauge)
    check_mark(mark)
    push = line_at(mark[0], mark[1])
    for move in back_base(system_of(pin_pushes(gauge))):
        if power(push, move)[0] != 0:
            return move
    return None


def turned_about(gauge):
    """The gauge with the errors of each pin the opposites."""
    return tuple(
        (point, direction, (ratio_product(high, (-1, 1)), ratio_product(low, (-1, 1))))
        for point, direction, (low, high) in gauge
    )


def sum_over(weights, stretches):
    """The sum of [37], each stretch a pair of LOW and HIGH."""
    total = ZERO
    for weight, (low, high) in zip(weights, stretches):
        total = ratio_sum(total, ratio_product(weight, high if weight[0] > 0 else low))
    return total


def greatest_by(gauge, shares):
    """What no shift passes upward, by these shares of the mark."""
    return sum_over(shares, [stretch for _, _, stretch in gauge])


def least_by(gauge, shares):
    """What no shift passes downward, by these shares of the mark."""
    return sum_over(shares, [(high, low) for _, _, (low, high) in gauge])


def least_table(gauge, mark):
    """The table for shares of the mark whose sum of [37] is the least one, which it is; None if it is not settled.

    Some move fits, so that there is a least sum.
    """
    pushes = [numbers_of(push) for push in pin_pushes(gauge)]
    columns = both_signs(pushes)
    table = Table(columns, numbers_of(line_at(mark[0], mark[1])), [False] * len(columns))
    if table.barrier() is not None:
        return None
    table.make_least(pin_costs(gauge))
    return table


def farthest_move(gauge, mark):
    """A move that fits by which the shift of a settled mark is the greatest one; some move fits."""
    # What the sum of [37] grows by, for each number of the mark's push: that is a move, and fits.
    prices = least_table(gauge, mark).prices()
    return (prices[3:], prices[:3])


def least_sum(gauge, mark):
    """Shares of the mark whose sum of [37] is the least one, and this sum; None if it is not settled."""
    table = least_table(gauge, mark)
    if table is None:
        return None
    shares = signed_weights(table.weights())
    return shares, greatest_by(gauge, shares)


def ends_of(gauge, mark):
    """Pairs of shares and their sum of [37]: for the least and for the greatest shift; None if it is not settled.

    Some move fits.
    """
    greatest = least_sum(gauge, mark)
    if greatest is None:
        return None
    shares, total = least_sum(turned_about(gauge), mark)
    return (shares, ratio_product(total, (-1, 1))), greatest


def check_range(gauge, mark):
    check_gauge(gauge)
    check_mark(mark)
    if misfit_or_move(gauge)[1] is None:
        raise NoMoveFits()


def mark_range(gauge, mark):
    """The least and the greatest shift of the mark over all moves that fit, None if it is not settled."""
    check_range(gauge, mark)
    ends = ends_of(gauge, mark)
    return None if ends is None else (ends[0][1], ends[1][1])


def range_weights(gauge, mark):
    """Shares for the least and for the greatest shift of the mark, None if it is not settled."""
    check_range(gauge, mark)
    ends = ends_of(gauge, mark)
    return None if ends is None else (ends[0][0], ends[1][0])
