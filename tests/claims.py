"""What the tests of the checker and of certificates share: claims drawn, papers looked at by own sums, both bent."""
from fractions import Fraction

from sevenpins.blows import is_body
from sevenpins.joints import is_joint
from sevenpins.marks import is_gauge
from sevenpins.screws import is_screw
from sevenpins.springs import are_springs
from sevenpins.stands import is_crane
from sevenpins.systems import is_system
from sevenpins.touches import is_jig
from sevenpins.triples import is_direction, is_fraction, is_triple
from tests.helpers import (
    Draws, inner, number, own_is_in, own_power, own_rank, pair, plus, six, times, weighed,
)
from tests.jigs import own_is_left, own_jig_rows, own_made, own_rows, worth
from tests.test_blows import BodyDraws, own_momentum
from tests.test_joints import JointDraws, own_hand, own_moves
from tests.test_marks import GaugeDraws, own_fits, own_made as own_marked, own_range, own_sum, push_of, pushes_of
from tests.test_pitches import own_count, own_form, own_signs, own_slides, principal_system, told_systems
from tests.test_springs import SpringDraws, own_energy, own_stiffer, told_in_halves
from tests.test_stands import CraneDraws, known_cranes, own_determinant, own_screws_at

NOUGHTS = [Fraction(0)] * 6
OTHER = {
    "in": "out", "all above": "not all above", "has pitch": "no pitch", "held": "not held", "on": "off",
    "borne": "not borne", "settled": "unsettled", "within": "beyond", "does": "does not", "lost": "not lost",
    "stiffer": "not stiffer",
}
OTHER.update({second: first for first, second in OTHER.items()})
WORDS = tuple(OTHER) + ("struck",)


# Claims and papers looked at by the tests' own sums.

def is_arm(value):
    return isinstance(value, tuple) and 1 <= len(value) <= 8 and all(is_joint(part) for part in value)


def is_mark(value):
    return isinstance(value, tuple) and len(value) == 2 and is_triple(value[0]) and is_direction(value[1])


def is_stand(value):
    return value is None or is_fraction(value)


def is_index(value):
    return type(value) is int and value >= 0


FORMS = {
    "in": (is_system, is_screw), "all above": (is_system, is_fraction), "has pitch": (is_system, is_fraction),
    "held": (is_jig,), "on": (is_jig, is_index), "borne": (is_jig, is_screw), "settled": (is_gauge, is_mark),
    "within": (is_gauge, is_mark, is_fraction, is_fraction), "does": (is_arm, is_screw),
    "lost": (is_crane, is_index, is_stand), "stiffer": (are_springs, are_springs),
    "struck": (is_jig, is_body, is_screw, is_screw),
}
FORMS.update({OTHER[word]: form for word, form in list(FORMS.items()) if word in OTHER})


def own_is_claim(value):
    if type(value) is not tuple or not value or type(value[0]) is not str or value[0] not in FORMS:
        return False
    form, parts = FORMS[value[0]], value[1:]
    if len(parts) != len(form) or not all(test(part) for test, part in zip(form, parts)):
        return False
    if value[0] in ("on", "off"):
        return parts[1] < len(parts[0])
    if value[0] in ("lost", "not lost"):
        return parts[1] < 6 and parts[0][parts[1]][0] == "turn"
    return True


def are_fractions(value, many):
    return type(value) is tuple and len(value) == many and all(is_fraction(part) for part in value)


def are_weights(rows, value):
    return are_fractions(value, len(rows)) and all(both or part[0] >= 0 for (_, both), part in zip(rows, value))


def makes(rows, value, push):
    return are_weights(rows, value) and own_made(rows, value) == list(push)


def is_left_move(rows, value):
    return is_screw(value) and own_is_left(rows, value)


def in_paper(paper, system, told):
    return are_fractions(paper, len(system)) and weighed(system, [number(part) for part in paper]) == six(told)


def out_paper(paper, system, told):
    if not is_screw(paper) or own_power(paper, told) == 0:
        return False
    return all(own_power(paper, part) == 0 for part in system)


def above_paper(paper, system, pitch):
    _, at, below = own_signs(system, number(pitch))
    return paper == () and below == 0 and at == own_slides(system)


def not_above_paper(paper, system, pitch):
    if not is_screw(paper) or not own_is_in(system, paper) or not any(six(paper)[:3]):
        return False
    return own_form(paper, number(pitch)) <= 0


def pitch_paper(paper, system, pitch):
    if type(paper) is not tuple or len(paper) != 2 or not all(is_screw(part) for part in paper):
        return False
    first, second = paper
    if not own_is_in(system, first) or not own_is_in(system, second):
        return False
    if own_form(first, number(pitch)) < 0 or own_form(second, number(pitch)) > 0:
        return False
    return inner(six(first)[:3], six(second)[:3]) > 0


def no_pitch_paper(paper, system, pitch):
    return paper == () and own_count(system, number(pitch)) == "none"


def held_paper(paper, jig):
    rows = own_jig_rows(jig)
    if not makes(rows, paper, NOUGHTS) or own_rank([six(push) for push, _ in rows]) < 6:
        return False
    return all(both or part[0] > 0 for (_, both), part in zip(rows, paper))


def not_held_paper(paper, jig):
    return is_left_move(own_jig_rows(jig), paper) and any(six(paper))


def on_paper(paper, jig, index):
    rows, own = own_jig_rows(jig), own_rows(jig[index])
    if type(paper) is not tuple or len(paper) != len(own):
        return False
    return all(makes(rows, weights, times(-1, six(push))) for weights, (push, _) in zip(paper, own))


def off_paper(paper, jig, index):
    if not is_left_move(own_jig_rows(jig), paper):
        return False
    return any(worth(push, paper) > 0 for push, _ in own_rows(jig[index]))


def borne_paper(paper, jig, push):
    return makes(own_jig_rows(jig), paper, times(-1, six(push)))


def not_borne_paper(paper, jig, push):
    return is_left_move(own_jig_rows(jig), paper) and worth(push, paper) > 0


def settled_paper(paper, gauge, mark):
    if not are_fractions(paper, len(gauge)):
        return False
    return own_marked(gauge, [number(part) for part in paper]) == six(push_of(mark))


def unsettled_paper(paper, gauge, mark):
    if not is_screw(paper) or own_power(paper, push_of(mark)) == 0:
        return False
    return all(own_power(paper, push) == 0 for push in pushes_of(gauge))


def within_paper(paper, gauge, mark, low, high):
    if type(paper) is not tuple or len(paper) != 3 or not is_screw(paper[0]) or not own_fits(gauge, paper[0]):
        return False
    if not settled_paper(paper[1], gauge, mark) or not settled_paper(paper[2], gauge, mark):
        return False
    first, second = [[number(part) for part in shares] for shares in paper[1:]]
    return own_sum(first, gauge, True) >= number(low) and own_sum(second, gauge) <= number(high)


def beyond_paper(paper, gauge, mark, low, high):
    if not is_screw(paper) or not own_fits(gauge, paper):
        return False
    return not number(low) <= worth(push_of(mark), paper) <= number(high)


def does_paper(paper, arm, move):
    if type(paper) is not tuple or len(paper) != len(arm):
        return False
    total = NOUGHTS
    for joint, rates in zip(arm, paper):
        if not are_fractions(rates, len(own_moves(joint))):
            return False
        total = plus(total, weighed(own_moves(joint), [number(part) for part in rates]))
    return total == six(move)


def does_not_paper(paper, arm, move):
    if not is_screw(paper) or own_power(paper, move) == 0:
        return False
    return all(own_power(paper, told) == 0 for joint in arm for told in own_moves(joint))


def lost_paper(paper, crane, index, stand):
    if not is_screw(paper) or not any(six(paper)):
        return False
    screws = own_screws_at(crane, index, None if stand is None else number(stand))
    return all(worth(six(paper), told) == 0 for told in screws)


def not_lost_paper(paper, crane, index, stand):
    screws = own_screws_at(crane, index, None if stand is None else number(stand))
    return paper == () and own_determinant(screws) != 0


def struck_paper(paper, jig, body, blow, move):
    rows = own_jig_rows(jig)
    if not are_weights(rows, paper) or not own_is_left(rows, move):
        return False
    if any(part[0] and worth(push, move) for (push, both), part in zip(rows, paper) if not both):
        return False
    return own_momentum(body, move) == plus(six(blow), own_made(rows, paper))


def stiffer_paper(paper, springs, other):
    return paper == () and own_stiffer(springs, other)


def not_stiffer_paper(paper, springs, other):
    return is_screw(paper) and own_energy(springs, paper) < own_energy(other, paper)


PAPERS = {
    "in": in_paper, "out": out_paper, "all above": above_paper, "not all above": not_above_paper,
    "has pitch": pitch_paper, "no pitch": no_pitch_paper, "held": held_paper, "not held": not_held_paper,
    "on": on_paper, "off": off_paper, "borne": borne_paper, "not borne": not_borne_paper, "settled": settled_paper,
    "unsettled": unsettled_paper, "within": within_paper, "beyond": beyond_paper, "does": does_paper,
    "does not": does_not_paper, "lost": lost_paper, "not lost": not_lost_paper, "struck": struck_paper,
    "stiffer": stiffer_paper, "not stiffer": not_stiffer_paper,
}


def own_accepts(claim, paper):
    """What `accepts` should tell, of values without odd equalities."""
    if not own_is_claim(claim):
        return False
    if OTHER.get(claim[0]) is not None and paper == () and type(paper) is not tuple:
        return False
    return PAPERS[claim[0]](paper, *claim[1:])


# Drawn arguments of certificates.

def of_systems(draws):
    kind = draws.whole(0, 3)
    if kind == 0:
        return draws.pick(told_systems())
    if kind == 1:
        pitches = [draws.small() for _ in range(draws.whole(0, 3))]
        return principal_system(draws, pitches, draws.whole(0, 3 - len(pitches)))
    return draws.system()


def screw_arguments(seed, count):
    draws = Draws(seed)
    for _ in range(count):
        system = of_systems(draws)
        yield system, draws.screw_in(system) if draws.whole(0, 1) else draws.plain_screw()


def pitch_arguments(seed, count):
    draws = Draws(seed)
    for _ in range(count):
        if draws.whole(0, 2) == 0:
            pitches = [draws.small() for _ in range(draws.whole(1, 3))]
            system = principal_system(draws, pitches, draws.whole(0, 3 - len(pitches)))
            yield system, pair(draws.pick(pitches + [min(pitches) - Fraction(1, 10 ** 20), max(pitches) + 1]))
        else:
            yield of_systems(draws), pair(draws.small())


def jig_arguments(seed, count):
    draws = GaugeDraws(seed)
    for _ in range(count):
        yield (draws.small_jig() if draws.whole(0, 2) else draws.jig(),)


def touch_arguments(seed, count):
    draws = GaugeDraws(seed)
    for (jig,) in jig_arguments(seed, count):
        yield jig, draws.whole(0, len(jig) - 1)


def push_arguments(seed, count):
    draws = GaugeDraws(seed)
    for (jig,) in jig_arguments(seed, count):
        yield jig, draws.push(jig)


def mark_arguments(seed, count):
    draws = GaugeDraws(seed)
    for _ in range(count):
        gauge = draws.gauge(8 if draws.whole(0, 3) else 12)
        yield gauge, draws.mark(gauge)


def range_arguments(seed, count):
    """Gauges that some move fits, and ends at those of the range, within and beyond it."""
    draws, tiny = GaugeDraws(seed), Fraction(1, 10 ** 30)
    for _ in range(count):
        gauge = draws.gauge(7, 1, True)
        mark = draws.mark(gauge)
        try:
            ends = own_range(gauge, mark) or (draws.small(), draws.small())
        except ValueError:
            continue
        low = ends[0] + draws.pick((0, 0, -1, 1, tiny, -tiny))
        high = ends[1] + draws.pick((0, 0, 1, -1, tiny, -tiny))
        yield (gauge, mark, pair(low), pair(high)) if draws.whole(0, 9) else (gauge, mark, pair(high), pair(low))


def move_arguments(seed, count):
    draws = JointDraws(seed)
    for _ in range(count):
        arm = draws.arm(8 if draws.whole(0, 4) == 0 else 3) if draws.whole(0, 1) else draws.narrow_arm(5)
        yield arm, draws.screw_in(own_hand(arm)) if draws.whole(0, 1) else draws.plain_screw()


def stand_arguments(seed, count):
    draws, known = CraneDraws(seed), list(known_cranes())
    for _ in range(count):
        if draws.whole(0, 1):
            crane, index, stands = draws.pick(known)
            stand = draws.pick(stands + [None, draws.small()])
        else:
            (crane, index), stand = draws.crane(), draws.pick((None, draws.small(), draws.number()))
        yield crane, index, None if stand is None else pair(stand)


def blow_arguments(seed, count):
    draws = BodyDraws(seed)
    for _ in range(count):
        yield draws.few_stops(), draws.body(), draws.blow()


def spring_arguments(seed, count):
    draws = SpringDraws(seed)
    for _ in range(count):
        springs = draws.few_springs() if draws.whole(0, 1) else draws.springs()
        kind = draws.whole(0, 3)
        other = (draws.springs(), springs[:draws.whole(1, len(springs))], springs[::-1], told_in_halves(springs[:6]))
        yield (springs, other[kind]) if draws.whole(0, 2) else (other[kind], springs)


# Bent values.

def bent(draws, value, depth=6):
    """The value with one change somewhere in it."""
    kind = draws.whole(0, 11)
    if isinstance(value, tuple) and value and depth and kind > 2:
        at = draws.whole(0, len(value) - 1)
        return value[:at] + (bent(draws, value[at], depth - 1),) + value[at + 1:]
    if type(value) is int and kind > 0:
        return draws.pick((value + 1, value - 1, -value, value * 2, value == 1, value + 10 ** 20))
    if isinstance(value, tuple):
        at = draws.whole(0, max(0, len(value) - 1))
        return draws.pick((
            value[:at] + value[at + 1:], value + value[at:at + 1], value[at:at + 1] + value, value[::-1], list(value),
            (value,), None, (), value[:at], True, 0, value[at:at + 1] * len(value),
        ))
    return draws.pick((None, True, 0, (), "", "held", [value], (value,), "off", "on", {}, (0, 1), -1))
