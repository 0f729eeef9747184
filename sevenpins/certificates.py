"""Certificates: of two claims that exclude one another the one that is so, with its paper ([48])."""
from sevenpins.balances import balance_or_move, opposite
from sevenpins.blows import check_struck, move_and_weights
from sevenpins.errors import NoMoveFits
from sevenpins.joints import barring_push, rates_for
from sevenpins.marks import (
    blind_move,
    check_gauge,
    check_mark,
    ends_of,
    farthest_move,
    mark_shares,
    misfit_or_move,
    turned_about,
)
from sevenpins.pitches import pitch_pair, squares_at
from sevenpins.ratios import ONE, is_above, ratio_product, ratio_quotient, ratio_sum
from sevenpins.screws import check_screw, line_at, power, screw_sum, screw_times
from sevenpins.springs import softer_move
from sevenpins.stands import idle_push
from sevenpins.systems import back_base, check_system, shares_of
from sevenpins.touches import all_rows, check_jig, free_move, holding_weights, off_move, on_weights
from sevenpins.triples import check_fraction
from sevenpins.vectors import is_nought


def certify_screw(system, screw):
    """That the screw is in the system, or out of it."""
    shares = shares_of(system, screw)
    if shares is not None:
        return ("in", system, screw), shares
    # The back of the back is the system, so not all of the back has power 0 on the screw.
    barring = [push for push in back_base(system) if power(push, screw)[0] != 0]
    return ("out", system, screw), barring[0]


def certify_above(system, pitch):
    """That all screws of the system with a pitch have one above this, or not all of them."""
    check_system(system)
    check_fraction(pitch)
    for number, screw in squares_at(system, pitch):
        if number < 0 or (number == 0 and not is_nought(screw[0])):
            return ("not all above", system, pitch), screw
    return ("all above", system, pitch), ()


def certify_pitch(system, pitch):
    """That some screw of the system has the pitch, or none."""
    pair = pitch_pair(system, pitch)
    if pair is None:
        return ("no pitch", system, pitch), ()
    return ("has pitch", system, pitch), pair


def certify_jig(jig):
    """That the jig is held, or not."""
    move = free_move(jig)
    if move is None:
        return ("held", jig), holding_weights(jig)
    return ("not held", jig), move


def certify_touch(jig, index):
    """That no left move takes the touch off, or that one does."""
    weights = on_weights(jig, index)
    if weights is None:
        return ("off", jig, index), off_move(jig, index)
    return ("on", jig, index), weights


def certify_push(jig, push):
    """That the jig bears the push, or not."""
    check_jig(jig)
    check_screw(push)
    weights, move = balance_or_move(all_rows(jig), push)
    if weights is None:
        return ("not borne", jig, push), move
    return ("borne", jig, push), tuple(weights)


def certify_mark(gauge, mark):
    """That the mark is settled, or not."""
    shares = mark_shares(gauge, mark)
    if shares is None:
        return ("unsettled", gauge, mark), blind_move(gauge, mark)
    return ("settled", gauge, mark), shares


def move_above(gauge, mark, move, bound):
    """A move that fits by which a mark that is not settled shifts by more than the bound; the told move fits."""
    push, blind = line_at(mark[0], mark[1]), blind_move(gauge, mark)
    lack = ratio_sum(ratio_sum(bound, ONE), ratio_product(power(push, move), (-1, 1)))
    return screw_sum(move, screw_times(blind, ratio_quotient(lack, power(push, blind))))


def certify_range(gauge, mark, fraction, other):
    """That the mark shifts from the fraction up to the other one by all moves that fit, or by some it does not."""
    check_gauge(gauge)
    check_mark(mark)
    check_fraction(fraction)
    check_fraction(other)
    move = misfit_or_move(gauge)[1]
    if move is None:
        raise NoMoveFits()
    ends, beyond = ends_of(gauge, mark), ("beyond", gauge, mark, fraction, other)
    if ends is None:
        return beyond, move_above(gauge, mark, move, other)
    (lower, least), (upper, greatest) = ends
    if is_above(fraction, least):
        return beyond, opposite(farthest_move(turned_about(gauge), mark))
    if is_above(greatest, other):
        return beyond, farthest_move(gauge, mark)
    return ("within", gauge, mark, fraction, other), (move, lower, upper)


def certify_move(arm, move):
    """That the hand of the arm can do the move, or not."""
    rates = rates_for(arm, move)
    if rates is None:
        return ("does not", arm, move), barring_push(arm, move)
    return ("does", arm, move), rates


def certify_stand(crane, index, stand):
    """That the crane is lost at the stand, or not."""
    push = idle_push(crane, index, stand)
    if push is None:
        return ("not lost", crane, index, stand), ()
    return ("lost", crane, index, stand), push


def certify_blow(jig, body, blow):
    """By which move the blow moves the body among the touches of the jig."""
    check_struck(jig, body, blow)
    move, weights = move_and_weights(all_rows(jig), body, blow)
    return ("struck", jig, body, blow, move), weights


def certify_springs(springs, other):
    """That the first springs are stiffer than the other ones, or not."""
    move = softer_move(springs, other)
    if move is None:
        return ("stiffer", springs, other), ()
    return ("not stiffer", springs, other), move
