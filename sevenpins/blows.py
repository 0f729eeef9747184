"""Blows on bodies of masses: free ones, ones kept to a system, ones among the touches of a jig ([41] to [43])."""
from sevenpins.balances import screw_total
from sevenpins.errors import InvalidBody, TooMany
from sevenpins.ratios import ONE, ZERO, as_fractions, over_common, ratio, ratio_product, ratio_quotient, ratio_sum
from sevenpins.rows import inner, stairs, weighed_rows, weights_for, whole_row
from sevenpins.screws import check_screw, moment_at, power
from sevenpins.systems import back_base, check_system, rows_in, system_of
from sevenpins.touches import all_rows, check_jig
from sevenpins.triples import is_fraction, is_triple
from sevenpins.vectors import NOUGHT, vector_cross, vector_dot, vector_less, vector_sum, vector_times

FEWEST_MASSES = 3
MOST_MASSES = 8
MOST_ONE_WAY = 6


def is_mass_at(value):
    """Whether a value is a pair of a point and a mass."""
    if not isinstance(value, tuple) or len(value) != 2:
        return False
    point, mass = value
    return is_triple(point) and is_fraction(mass) and mass[0] > 0


def are_on_a_line(points):
    return len(stairs([whole_row(vector_less(point, points[0])) for point in points])) < 2


def body_fault(value):
    """The index that tells why a tuple of three or more is no body ([41]), None if it is one."""
    for index, part in enumerate(value):
        if index == MOST_MASSES or not is_mass_at(part):
            return index
    return len(value) if are_on_a_line([point for point, _ in value]) else None


def is_long_enough(value):
    return isinstance(value, tuple) and len(value) >= FEWEST_MASSES


def is_body(value):
    """Whether a value, whatever it is, is a body."""
    return is_long_enough(value) and body_fault(value) is None


def check_body(body):
    if not is_long_enough(body):
        raise InvalidBody(None)
    fault = body_fault(body)
    if fault is not None:
        raise InvalidBody(fault)


def middle(body):
    """The sum of all points, each times its mass, over the sum of the masses."""
    check_body(body)
    total, masses = NOUGHT, ZERO
    for point, mass in body:
        total = vector_sum(total, vector_times(point, mass))
        masses = ratio_sum(masses, mass)
    return vector_times(total, ratio_quotient(ONE, masses))


def momentum_of(body, move):
    pushes = []
    for point, mass in body:
        force = vector_times(moment_at(move, point), mass)
        pushes.append((force, vector_cross(point, force)))
    return screw_total(pushes)


def momentum(body, move):
    """The sum of the forces mass times speed at the points."""
    check_body(body)
    check_screw(move)
    return momentum_of(body, move)


def energy(body, move):
    """The sum of all mass times the square of the speed."""
    check_body(body)
    check_screw(move)
    total = ZERO
    for point, mass in body:
        speed = moment_at(move, point)
        total = ratio_sum(total, ratio_product(mass, vector_dot(speed, speed)))
    return total


def masses_of(body):
    """Six rows of whole numbers and what they are over: they lead the numbers of a move to those of its momentum.

    The momentum has its halves exchanged: so its products with the numbers of a move add up to the power on it.
    """
    numbers = []
    # The base of all screws has one number 1 in each of them, from the first place to the last one.
    for move in back_base(()):
        line, moment = momentum_of(body, move)
        numbers.extend(moment + line)
    whole, common = over_common(numbers)
    return [whole[at:at + 6] for at in range(0, 36, 6)], common


def led_by(masses, numbers):
    """The numbers of the momentum, halves exchanged, of a move with these numbers."""
    rows, common = masses
    whole, below = over_common(numbers)
    return tuple(ratio(number, common * below) for number in weighed_rows(whole, rows, 6))


def kept_numbers(masses, base, blow):
    """The numbers of the move of the system whose momentum less the blow has power 0 on all of it."""
    rows, common = masses
    moves = rows_in(base)
    momenta = [weighed_rows(move, rows, 6) for move in moves]
    forms = [as_fractions([inner(row, move) for move in moves]) for row in momenta]
    whole, below = over_common(blow[1] + blow[0])
    target = [ratio(common * inner(whole, move), below) for move in moves]
    shares, over = over_common(weights_for(forms, target))
    return tuple(ratio(number, over) for number in weighed_rows(shares, moves, 6))


def kept_move(body, base, blow):
    numbers = kept_numbers(masses_of(body), base, blow)
    return (numbers[:3], numbers[3:])


def blown(body, blow):
    """The move of the free body."""
    check_body(body)
    check_screw(blow)
    return kept_move(body, back_base(()), blow)


def kept_blow(body, system, blow):
    """The move of the body that is kept to the system."""
    check_body(body)
    check_system(system)
    check_screw(blow)
    return kept_move(body, system, blow)


def check_struck(jig, body, blow):
    check_jig(jig)
    check_body(body)
    check_screw(blow)
    one_way = len([both for _, both in all_rows(jig) if not both])
    if one_way > MOST_ONE_WAY:
        raise TooMany(one_way)


def pressed(rows, masses, blow, pressing):
    """The move of the body that is kept to power 0 on the rows with these indexes, and weights that make it so."""
    pushes = [rows[at][0] for at in pressing]
    numbers = kept_numbers(masses, back_base(system_of(tuple(pushes))), blow)
    made = vector_less(led_by(masses, numbers), blow[1] + blow[0])
    weights = [ZERO] * len(rows)
    for at, weight in zip(pressing, weights_for([push[1] + push[0] for push in pushes], made)):
        weights[at] = weight
    return (numbers[:3], numbers[3:]), weights


def first_below(rows, fractions):
    """The index of the first row one way whose fraction is below 0, None if there is none."""
    for at, ((_, both), fraction) in enumerate(zip(rows, fractions)):
        if fraction[0] < 0 and not both:
            return at
    return None


def stepped(rows, weights, aimed):
    """The weights led to the aimed ones, as far as none of a row one way goes below 0."""
    whole_way = vector_less(aimed, weights)
    share = ONE
    for (_, both), weight, way in zip(rows, weights, whole_way):
        if not both and ratio_sum(weight, ratio_product(way, share))[0] < 0:
            share = ratio_quotient(weight, ratio_product(way, (-1, 1)))
    return list(vector_sum(weights, vector_times(whole_way, share)))


def press_upon(rows, masses, blow, weights, pressing):
    """The move and the weights of the rows that go on pressing, of those with these indexes: none pulls.

    Rows that would pull are let go of, on the way from the told weights, one or more at a time.
    """
    move, aimed = pressed(rows, masses, blow, pressing)
    while first_below(rows, aimed) is not None:
        weights = stepped(rows, weights, aimed)
        pressing = [at for at in pressing if rows[at][1] or weights[at][0] > 0]
        move, aimed = pressed(rows, masses, blow, pressing)
    return move, aimed


def move_and_weights(rows, body, blow):
    """The move of [43] and its weights.

    Rows are taken in as long as the move passes one of them; each time the energy of the move goes down, so no choice
    of rows that press comes twice (Lawson and Hanson 1974).
    """
    masses = masses_of(body)
    fixed = [at for at, (_, both) in enumerate(rows) if both]
    move, weights = pressed(rows, masses, blow, fixed)
    passed = first_below(rows, [power(push, move) for push, _ in rows])
    while passed is not None:
        pressing = [at for at, weight in enumerate(weights) if rows[at][1] or weight[0] > 0]
        move, weights = press_upon(rows, masses, blow, weights, pressing + [passed])
        passed = first_below(rows, [power(push, move) for push, _ in rows])
    return move, tuple(weights)


def struck(jig, body, blow):
    """The move of the body among the touches of the jig."""
    check_struck(jig, body, blow)
    return move_and_weights(all_rows(jig), body, blow)[0]


def stop_blows(jig, body, blow):
    """Weights of [43]: the blows of the touches."""
    check_struck(jig, body, blow)
    return move_and_weights(all_rows(jig), body, blow)[1]
