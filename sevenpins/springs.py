"""Springs: how they push back, when they are steady, how far they give way ([44] to [46])."""
from math import lcm

from sevenpins.balances import opposite, screw_total
from sevenpins.errors import InvalidSprings
from sevenpins.forms import squares
from sevenpins.ratios import ZERO, as_fractions, over_common, ratio_product, ratio_sum
from sevenpins.rows import weights_for
from sevenpins.screws import check_screw, line_at, power, screw_times
from sevenpins.systems import system_of, whole_screw
from sevenpins.triples import is_direction, is_fraction, is_triple
from sevenpins.vectors import vector_times

MOST_SPRINGS = 12


def is_spring(value):
    if not isinstance(value, tuple) or len(value) != 3:
        return False
    point, direction, strength = value
    return is_triple(point) and is_direction(direction) and is_fraction(strength) and strength[0] > 0


def are_springs(value):
    """Whether a value, whatever it is, is springs."""
    return isinstance(value, tuple) and 1 <= len(value) <= MOST_SPRINGS and all(is_spring(part) for part in value)


def check_springs(springs):
    if not isinstance(springs, tuple) or not springs:
        raise InvalidSprings(None)
    for index, spring in enumerate(springs):
        if index == MOST_SPRINGS or not is_spring(spring):
            raise InvalidSprings(index)


def spring_pushes(springs):
    """Pairs of the push of each spring and its strength."""
    return [(line_at(point, direction), strength) for point, direction, strength in springs]


def against(springs, move):
    """The opposite of the push by which the springs push back."""
    pushes = spring_pushes(springs)
    return screw_total([screw_times(push, ratio_product(strength, power(push, move))) for push, strength in pushes])


def pushed_back(springs, move):
    """The push by which the springs push back."""
    check_springs(springs)
    check_screw(move)
    return opposite(against(springs, move))


def energy_of(springs, move):
    total = ZERO
    for push, strength in spring_pushes(springs):
        feel = power(push, move)
        total = ratio_sum(total, ratio_product(strength, ratio_product(feel, feel)))
    return total


def spring_energy(springs, move):
    """The sum of all strength times the square of the feel."""
    check_springs(springs)
    check_screw(move)
    return energy_of(springs, move)


def are_steady(springs):
    """Whether the energy is above 0 for all moves but nought."""
    check_springs(springs)
    return len(system_of(tuple(push for push, _ in spring_pushes(springs)))) == 6


def matrix_of(springs):
    """Six rows of whole numbers and what they are over: the form that the energy is of LINE and MOMENT of the move."""
    told = []
    for (line, moment), (above, below) in spring_pushes(springs):
        # The power takes the push's LINE with the move's MOMENT, so the halves are exchanged.
        numbers, common = over_common(moment + line)
        told.append((numbers, above, below * common * common))
    whole, rows = 1, [[0] * 6 for _ in range(6)]
    for _, _, below in told:
        whole = lcm(whole, below)
    for numbers, above, below in told:
        often = above * (whole // below)
        rows = [[own + often * number * part for own, part in zip(row, numbers)] for row, number in zip(rows, numbers)]
    return rows, whole


def given_way(springs, load):
    """A move by which the springs push back with the opposite of the load, None if there is none."""
    check_springs(springs)
    check_screw(load)
    rows, whole = matrix_of(springs)
    target = vector_times(load[1] + load[0], (whole, 1))
    found = weights_for([as_fractions(row) for row in rows], target)
    return None if found is None else (tuple(found[:3]), tuple(found[3:]))


def less_move(springs, other):
    """A move by which the energy of the first ones is less, None if there is none."""
    own, whole = matrix_of(springs)
    its, its_whole = matrix_of(other)
    more = [[its_whole * a - whole * b for a, b in zip(row, its_row)] for row, its_row in zip(own, its)]
    for worth, row in squares(more):
        if worth < 0:
            return whole_screw(row)
    return None


def are_stiffer(springs, other):
    """Whether by each move the energy of the first ones is at least that of the other ones."""
    check_springs(springs)
    check_springs(other)
    return less_move(springs, other) is None


def softer_move(springs, other):
    """A move by which the energy of the first ones is less than that of the other ones, None if there is none."""
    check_springs(springs)
    check_springs(other)
    return less_move(springs, other)
