"""The checker: which papers show which claims ([48])."""
from sevenpins.balances import is_left_by, opposite, order_of_rows, pushes_of, weighed_screws
from sevenpins.blows import is_body, momentum
from sevenpins.joints import is_arm, moves_of
from sevenpins.marks import fits, greatest_by, is_gauge, is_spot, least_by, pin_pushes
from sevenpins.pitches import count_of, form_of, signs_in
from sevenpins.ratios import is_above
from sevenpins.screws import is_screw, line_at, power, screw_sum
from sevenpins.springs import are_springs, are_stiffer, spring_energy
from sevenpins.stands import is_crane, is_lost, screws_at
from sevenpins.systems import found_shares, is_system, slides_of
from sevenpins.touches import all_rows, is_jig, touch_rows
from sevenpins.triples import is_fraction, is_whole
from sevenpins.vectors import NOUGHT, is_nought, vector_dot

KINDS = {
    "in": ("system", "screw"),
    "out": ("system", "screw"),
    "all above": ("system", "fraction"),
    "not all above": ("system", "fraction"),
    "has pitch": ("system", "fraction"),
    "no pitch": ("system", "fraction"),
    "held": ("jig",),
    "not held": ("jig",),
    "on": ("jig", "index"),
    "off": ("jig", "index"),
    "borne": ("jig", "screw"),
    "not borne": ("jig", "screw"),
    "settled": ("gauge", "mark"),
    "unsettled": ("gauge", "mark"),
    "within": ("gauge", "mark", "fraction", "fraction"),
    "beyond": ("gauge", "mark", "fraction", "fraction"),
    "does": ("arm", "screw"),
    "does not": ("arm", "screw"),
    "lost": ("crane", "index", "stand"),
    "not lost": ("crane", "index", "stand"),
    "struck": ("jig", "body", "screw", "screw"),
    "stiffer": ("springs", "springs"),
    "not stiffer": ("springs", "springs"),
}


def is_machine(kind, value):
    """Whether a value is of this kind, one of those that are made of several parts."""
    if kind == "jig":
        return is_jig(value)
    if kind == "gauge":
        return is_gauge(value)
    if kind == "arm":
        return is_arm(value)
    if kind == "crane":
        return is_crane(value)
    return is_body(value) if kind == "body" else are_springs(value)


def is_of_kind(kind, value):
    if kind == "screw":
        return is_screw(value)
    if kind == "system":
        return is_system(value)
    if kind == "fraction":
        return is_fraction(value)
    if kind == "index":
        return is_whole(value) and value >= 0
    if kind == "mark":
        return is_spot(value)
    if kind == "stand":
        return value is None or is_fraction(value)
    return is_machine(kind, value)


def is_claim(value):
    """Whether a value, whatever it is, is a claim for the checker."""
    if not isinstance(value, tuple) or not value or not isinstance(value[0], str) or value[0] not in KINDS:
        return False
    word, parts = value[0], value[1:]
    kinds = KINDS[word]
    if len(parts) != len(kinds) or not all(is_of_kind(kind, part) for kind, part in zip(kinds, parts)):
        return False
    if "index" in kinds and parts[1] >= len(parts[0]):
        return False
    return "crane" not in kinds or parts[0][parts[1]][0] == "turn"


def is_empty(paper):
    return isinstance(paper, tuple) and not paper


def are_fractions(value, many):
    return isinstance(value, tuple) and len(value) == many and all(is_fraction(part) for part in value)


def are_weights(rows, value):
    """Whether a value is a tuple of weights for the rows."""
    if not are_fractions(value, len(rows)):
        return False
    return all(both or weight[0] >= 0 for (_, both), weight in zip(rows, value))


def do_make(rows, value, push):
    """Whether a value is a tuple of weights for the rows that make the push."""
    return are_weights(rows, value) and weighed_screws(pushes_of(rows), value) == push


def is_left_move(rows, value):
    return is_screw(value) and is_left_by(rows, value)


def is_reciprocal(screws, value):
    """Whether a value is a screw with power 0 on all of these."""
    return is_screw(value) and all(power(value, screw)[0] == 0 for screw in screws)


def is_one_of(system, value):
    return is_screw(value) and found_shares(system, value) is not None


def is_nought_screw(screw):
    return is_nought(screw[0]) and is_nought(screw[1])


def shows_in(paper, system, screw):
    return are_fractions(paper, len(system)) and weighed_screws(system, paper) == screw


def shows_out(paper, system, screw):
    return is_reciprocal(system, paper) and power(paper, screw)[0] != 0


def shows_all_above(paper, system, fraction):
    # Where the form is nowhere below 0, it is 0 at the sums of its squares at 0 alone: these must be slides.
    _, at, below = signs_in(system, fraction)
    return is_empty(paper) and below == 0 and at == len(slides_of(system))


def shows_not_all_above(paper, system, fraction):
    return is_one_of(system, paper) and not is_nought(paper[0]) and form_of(paper, fraction)[0] <= 0


def shows_pitch(paper, system, fraction):
    if not isinstance(paper, tuple) or len(paper) != 2 or not all(is_one_of(system, screw) for screw in paper):
        return False
    first, second = paper
    if form_of(first, fraction)[0] < 0 or form_of(second, fraction)[0] > 0:
        return False
    return vector_dot(first[0], second[0])[0] > 0


def shows_no_pitch(paper, system, fraction):
    return is_empty(paper) and count_of(system, fraction) == "none"


def shows_held(paper, jig):
    rows = all_rows(jig)
    if not do_make(rows, paper, (NOUGHT, NOUGHT)) or order_of_rows(rows) < 6:
        return False
    return all(both or weight[0] > 0 for (_, both), weight in zip(rows, paper))


def shows_not_held(paper, jig):
    return is_left_move(all_rows(jig), paper) and not is_nought_screw(paper)


def shows_on(paper, jig, index):
    own, rows = touch_rows(jig[index]), all_rows(jig)
    if not isinstance(paper, tuple) or len(paper) != len(own):
        return False
    return all(do_make(rows, weights, opposite(push)) for (push, _), weights in zip(own, paper))


def shows_off(paper, jig, index):
    if not is_left_move(all_rows(jig), paper):
        return False
    return any(power(push, paper)[0] > 0 for push, _ in touch_rows(jig[index]))


def shows_borne(paper, jig, push):
    return do_make(all_rows(jig), paper, opposite(push))


def shows_not_borne(paper, jig, push):
    return is_left_move(all_rows(jig), paper) and power(push, paper)[0] > 0


def shows_settled(paper, gauge, mark):
    if not are_fractions(paper, len(gauge)):
        return False
    return weighed_screws(pin_pushes(gauge), paper) == line_at(mark[0], mark[1])


def shows_unsettled(paper, gauge, mark):
    return is_reciprocal(pin_pushes(gauge), paper) and power(paper, line_at(mark[0], mark[1]))[0] != 0


def is_fitting(gauge, value):
    return is_screw(value) and fits(gauge, value)


def shows_within(paper, gauge, mark, low, high):
    if not isinstance(paper, tuple) or len(paper) != 3 or not is_fitting(gauge, paper[0]):
        return False
    if not shows_settled(paper[1], gauge, mark) or not shows_settled(paper[2], gauge, mark):
        return False
    return not is_above(low, least_by(gauge, paper[1])) and not is_above(greatest_by(gauge, paper[2]), high)


def shows_beyond(paper, gauge, mark, low, high):
    if not is_fitting(gauge, paper):
        return False
    shift = power(line_at(mark[0], mark[1]), paper)
    return is_above(low, shift) or is_above(shift, high)


def shows_does(paper, arm, move):
    bases = [moves_of(joint) for joint in arm]
    if not isinstance(paper, tuple) or len(paper) != len(bases):
        return False
    if not all(are_fractions(rates, len(base)) for rates, base in zip(paper, bases)):
        return False
    screws = [screw for base in bases for screw in base]
    return weighed_screws(screws, [rate for rates in paper for rate in rates]) == move


def shows_does_not(paper, arm, move):
    screws = [screw for joint in arm for screw in moves_of(joint)]
    return is_reciprocal(screws, paper) and power(paper, move)[0] != 0


def shows_lost(paper, crane, index, stand):
    return is_reciprocal(screws_at(crane, index, stand), paper) and not is_nought_screw(paper)


def shows_not_lost(paper, crane, index, stand):
    return is_empty(paper) and not is_lost(crane, index, stand)


def shows_struck(paper, jig, body, blow, move):
    rows = all_rows(jig)
    if not are_weights(rows, paper) or not is_left_by(rows, move):
        return False
    for (push, both), weight in zip(rows, paper):
        if not both and weight[0] != 0 and power(push, move)[0] != 0:
            return False
    return screw_sum(blow, weighed_screws(pushes_of(rows), paper)) == momentum(body, move)


def shows_stiffer(paper, springs, other):
    return is_empty(paper) and are_stiffer(springs, other)


def shows_not_stiffer(paper, springs, other):
    return is_screw(paper) and is_above(spring_energy(other, paper), spring_energy(springs, paper))


SHOWING = {
    "in": shows_in,
    "out": shows_out,
    "all above": shows_all_above,
    "not all above": shows_not_all_above,
    "has pitch": shows_pitch,
    "no pitch": shows_no_pitch,
    "held": shows_held,
    "not held": shows_not_held,
    "on": shows_on,
    "off": shows_off,
    "borne": shows_borne,
    "not borne": shows_not_borne,
    "settled": shows_settled,
    "unsettled": shows_unsettled,
    "within": shows_within,
    "beyond": shows_beyond,
    "does": shows_does,
    "does not": shows_does_not,
    "lost": shows_lost,
    "not lost": shows_not_lost,
    "struck": shows_struck,
    "stiffer": shows_stiffer,
    "not stiffer": shows_not_stiffer,
}


def accepts(claim, paper):
    """Whether the claim is one for the checker, and the paper shows it, whatever both are."""
    if not is_claim(claim):
        return False
    shows = SHOWING[claim[0]]
    parts = claim[1:]
    return shows(paper, *parts)
