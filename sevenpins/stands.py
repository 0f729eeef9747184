"""Cranes: at which stands of one of its turns an arm of six joints is lost ([25] to [27])."""
from sevenpins.errors import InvalidCrane, InvalidIndex, InvalidNumber, InvalidStand
from sevenpins.joints import is_joint, lead_screw
from sevenpins.pitches import check_many, greatest_whole
from sevenpins.polynomials import root_chain, roots_below, roots_in_all, trimmed
from sevenpins.ratios import ONE, over_common, ratio, ratio_product, ratio_sum
from sevenpins.rows import determinant, whole_row
from sevenpins.systems import back_base, numbers_of, system_of
from sevenpins.triples import check_fraction, is_fraction, is_whole
from sevenpins.turnings import led_vector, placed_screw, turning_of
from sevenpins.vectors import vector_dot, vector_less, vector_times

JOINTS_OF_A_CRANE = 6
WORDS = ("turn", "slide", "screw")


def is_crane_joint(value):
    return is_joint(value) and value[0] in WORDS


def is_crane(value):
    """Whether a value, whatever it is, is a crane."""
    if not isinstance(value, tuple) or len(value) != JOINTS_OF_A_CRANE:
        return False
    return all(is_crane_joint(part) for part in value)


def check_crane(crane):
    if not isinstance(crane, tuple) or len(crane) != JOINTS_OF_A_CRANE:
        raise InvalidCrane(None)
    for index, joint in enumerate(crane):
        if not is_crane_joint(joint):
            raise InvalidCrane(index)


def check_turn(crane, index):
    if not is_whole(index) or not 0 <= index < len(crane) or crane[index][0] != "turn":
        raise InvalidIndex(index)


def check_stand(stand):
    if stand is not None and not is_fraction(stand):
        raise InvalidStand(stand)


def turning_at(direction, stand):
    """The turning about the direction of which half the angle has the tangent stand times its length."""
    if stand is None:
        numbers, _ = over_common(direction)
        return turning_of((0, numbers[0], numbers[1], numbers[2]))
    numbers, common = over_common(vector_times(direction, stand))
    return turning_of((common, numbers[0], numbers[1], numbers[2]))


def placing_at(turn, stand):
    """The placing that turns about the axis of this joint."""
    _, point, direction = turn
    turning = turning_at(direction, stand)
    return (turning, vector_less(point, led_vector(turning, point)))


def led_screws(crane, index, stand):
    placing = placing_at(crane[index], stand)
    screws = [lead_screw(joint) for joint in crane]
    return tuple(
        placed_screw(placing, screw) if at > index else screw for at, screw in enumerate(screws)
    )


def screws_at(crane, index, stand):
    """The six screws of the crane at the stand, in order."""
    check_crane(crane)
    check_turn(crane, index)
    check_stand(stand)
    return led_screws(crane, index, stand)


def bulk_of(screws):
    """The determinant with the six screws as rows."""
    rows, below = [], 1
    for screw in screws:
        row, common = over_common(numbers_of(screw))
        rows.append(row)
        below *= common
    return ratio(determinant(rows), below)


def polynomial_at(crane, index, stand):
    """P of [26] at the stand, c4 for the half turn."""
    direction = crane[index][2]
    stretch = vector_dot(direction, direction)
    if stand is not None:
        stretch = ratio_sum(ONE, ratio_product(stretch, ratio_product(stand, stand)))
    return ratio_product(bulk_of(led_screws(crane, index, stand)), ratio_product(stretch, stretch))


def polynomial_of(crane, index):
    """The five fractions of [26], from five of the polynomial's values."""
    stands = ((0, 1), (1, 1), (-1, 1), (2, 1), None)
    values, common = over_common([polynomial_at(crane, index, stand) for stand in stands])
    at_0, at_1, at_less, at_2, top = values
    even = at_1 + at_less - 2 * at_0 - 2 * top
    odd = at_1 - at_less
    third = at_2 - at_0 - 16 * top - 2 * even - odd
    sixfold = (6 * at_0, 3 * odd - third, 3 * even, third, 6 * top)
    return tuple(ratio(number, 6 * common) for number in sixfold)


def stand_rows(crane, index):
    """The five fractions (c0, .., c4) of [26]."""
    check_crane(crane)
    check_turn(crane, index)
    return polynomial_of(crane, index)


def is_lost(crane, index, stand):
    """Whether the hand has not all moves at the stand."""
    check_crane(crane)
    check_turn(crane, index)
    check_stand(stand)
    return bulk_of(led_screws(crane, index, stand))[0] == 0


def idle_push(crane, index, stand):
    """A push other than 0 with power 0 on all six screws at the stand, None if there is none."""
    check_crane(crane)
    check_turn(crane, index)
    check_stand(stand)
    for push in back_base(system_of(led_screws(crane, index, stand))):
        return push
    return None


def lost_chain(fractions):
    """The chain of signs of the polynomial with these numbers, that of the highest power last; None for 0."""
    row = trimmed(whole_row(fractions[::-1]))
    return root_chain(row) if row else None


def count_lost(fractions, chain):
    # The half turn is one of the stands exactly if the number of the highest power is 0.
    return roots_in_all(chain) + (1 if fractions[-1][0] == 0 else 0)


def lost_count(crane, index):
    """The number of stands at which the crane is lost, `all` for all of them."""
    check_crane(crane)
    check_turn(crane, index)
    fractions = polynomial_of(crane, index)
    chain = lost_chain(fractions)
    return "all" if chain is None else count_lost(fractions, chain)


def lost_below(crane, index, fraction):
    """How many of the stands at which the crane is lost have a number below the fraction, `all` for all stands."""
    check_crane(crane)
    check_turn(crane, index)
    check_fraction(fraction)
    chain = lost_chain(polynomial_of(crane, index))
    return "all" if chain is None else roots_below(chain, fraction[0], fraction[1])


def lost_near(crane, index, place, many):
    """The greatest n such that n / many is not above the stand at this place, None for the half turn."""
    check_crane(crane)
    check_turn(crane, index)
    fractions = polynomial_of(crane, index)
    chain = lost_chain(fractions)
    if not is_whole(place) or chain is None or not 0 <= place < count_lost(fractions, chain):
        raise InvalidNumber(place)
    check_many(many)
    if place == roots_in_all(chain):
        return None
    return greatest_whole(lambda number: roots_below(chain, number, many) <= place)
