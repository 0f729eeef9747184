"""Gauges and marks ([36], [37])."""
import time
import unittest
from fractions import Fraction
from itertools import combinations

from sevenpins.errors import InvalidGauge, InvalidMark, InvalidScrew, NoMoveFits
from sevenpins.marks import (
    blind_move, errors_fit, fits_move, fitting_move, is_gauge, is_settled_mark, mark_range, mark_shares, misfit_weights,
    range_weights,
)
from tests.helpers import (
    ANYTHING, NOUGHT, WRONG_DIRECTIONS, WRONG_FRACTIONS, WRONG_SCREWS, WRONG_TRIPLES, X, Y, Z, assert_fraction,
    assert_screw, check_refusals, given, indexed, number, own_line, own_rank, own_stairs, pair, plus, refused,
    screw, six, times, triple, vector,
)
from tests.jigs import JigDraws, worth
from tests.test_touches import own_led, own_placed

NEAR = ((-1, 10), (1, 10))
TINY = Fraction(1, 10 ** 40)


def push_of(spot):
    return own_line(vector(spot[0]), vector(spot[1]))


def pushes_of(gauge):
    return [push_of(pin) for pin in gauge]


def own_fits(gauge, move):
    return all(number(pin[2][0]) <= worth(push_of(pin), move) <= number(pin[2][1]) for pin in gauge)


def own_sum(shares, gauge, exchanged=False):
    """The sum of [37], or that with LOW and HIGH exchanged."""
    total = Fraction(0)
    for share, (_, _, (low, high)) in zip(shares, gauge):
        above = (share > 0) != exchanged
        total += share * number(high if above else low) if share else 0
    return total


def own_made(gauge, shares):
    total = [Fraction(0)] * 6
    for push, share in zip(pushes_of(gauge), shares):
        total = plus(total, times(share, six(push)))
    return total


def solved(rows, target):
    """The one choice of weights of independent rows that make the target, None if there is none."""
    columns = [list(column) + [value] for column, value in zip(zip(*rows), target)]
    stairs = own_stairs(columns)
    if any(not any(row[:-1]) for row in stairs):
        return None
    return [row[-1] for row in stairs]


def own_range(gauge, mark):
    """The least and the greatest shift, from all shares that take independent pins alone; None if there are none."""
    rows, target = [six(push) for push in pushes_of(gauge)], six(push_of(mark))
    rank, least, greatest = own_rank(rows), None, None
    for chosen in combinations(range(len(rows)), rank):
        independent = [rows[at] for at in chosen]
        if own_rank(independent) < rank:
            continue
        found = solved(independent, target)
        if found is None:
            return None
        pins = [gauge[at] for at in chosen]
        high, low = own_sum(found, pins), own_sum(found, pins, True)
        greatest = high if greatest is None else min(greatest, high)
        least = low if least is None else max(least, low)
    return least, greatest


class GaugeDraws(JigDraws):
    def stretch(self):
        kind = self.random.randrange(6)
        if kind == 0:
            value = self.fraction()
            return (value, value)
        low, high = sorted([self.number(), self.number()] if kind == 1 else [self.small(), self.small()])
        return (pair(low), pair(high))

    def spot(self):
        return (self.point(), self.way())

    def gauge(self, most=12, least=1, fitted=None):
        """A gauge; a fitted one has a move that fits, unless pins are changed behind that."""
        found = []
        move = self.plain_screw() if self.random.randrange(2) else screw(self.numbers(6))
        fitted = self.random.randrange(4) > 0 if fitted is None else fitted
        line = self.random.randrange(5) == 0
        for _ in range(self.whole(least, most)):
            spot = (triple(times(self.whole(-2, 2), (0, 0, 1))), self.way()) if line else self.spot()
            if fitted:
                middle = worth(push_of(spot), move)
                below, above = [abs(self.small()) if self.random.randrange(3) else Fraction(0) for _ in range(2)]
                found.append(spot + ((pair(middle - below), pair(middle + above)),))
            else:
                found.append(spot + (self.stretch(),))
        if len(found) > 1 and self.random.randrange(6) == 0:
            found[-1] = found[0]
        return tuple(found)

    def mark(self, gauge):
        """A mark: any one, or one at a pin, or one that the pins settle mostly."""
        kind = self.random.randrange(4)
        if kind == 0:
            return self.spot()
        if kind == 1:
            return self.pick(gauge)[:2]
        first = self.pick(gauge)
        others = [pin for pin in gauge if pin[1] == first[1]]
        second = self.pick(others)
        share = self.small()
        point = plus(times(share, vector(first[0])), times(1 - share, vector(second[0])))
        return (triple(point), triple(times(self.pick((1, -2, Fraction(1, 3))), vector(first[1]))))


class Case(unittest.TestCase):
    def gauges(self, seed, count, most=12, least=1, fitted=None):
        draws = GaugeDraws(seed)
        for _ in range(count):
            yield draws, draws.gauge(most, least, fitted)

    def check_fractions(self, found, gauge):
        self.assertIs(type(found), tuple)
        self.assertEqual(len(found), len(gauge))
        for part in found:
            assert_fraction(self, part)
        return [number(part) for part in found]

    def check_fit(self, gauge, expected=None):
        """Whether some move fits, by a paper either way."""
        move, weights = fitting_move(gauge), misfit_weights(gauge)
        if move is not None:
            self.assertIsNone(weights)
            assert_screw(self, move)
            self.assertTrue(own_fits(gauge, move))
        else:
            told = self.check_fractions(weights, gauge)
            self.assertEqual(own_made(gauge, told), [0] * 6)
            self.assertLess(own_sum(told, gauge), 0)
        self.assertEqual((fitting_move(gauge=gauge), misfit_weights(gauge=gauge)), (move, weights))
        if expected is not None:
            self.assertIs(move is not None, expected)
        return move is not None

    def check_mark(self, gauge, mark):
        """Whether a mark is settled, by a paper either way."""
        settled, shares, move = is_settled_mark(gauge, mark), mark_shares(gauge, mark), blind_move(gauge, mark)
        if settled:
            self.assertIs(settled, True)
            self.assertIsNone(move)
            self.assertEqual(own_made(gauge, self.check_fractions(shares, gauge)), six(push_of(mark)))
        else:
            self.assertIs(settled, False)
            self.assertIsNone(shares)
            assert_screw(self, move)
            self.assertTrue(all(worth(push, move) == 0 for push in pushes_of(gauge)))
            self.assertNotEqual(worth(push_of(mark), move), 0)
        self.assertIs(is_settled_mark(mark=mark, gauge=gauge), settled)
        self.assertEqual(mark_shares(mark=mark, gauge=gauge), shares)
        self.assertEqual(blind_move(mark=mark, gauge=gauge), move)
        return settled


class Fits(Case):
    def test_is_gauge(self):
        for _, gauge in self.gauges(181, 60):
            self.assertIs(is_gauge(gauge), True)
            self.assertIs(is_gauge(value=gauge), True)
        self.assertIs(is_gauge(((X, Y, NEAR),) * 12), True)
        for value, _ in WRONG_GAUGES:
            self.assertIs(is_gauge(value), False, value)

    def test_fits_move(self):
        seen = {True: 0, False: 0}
        for draws, gauge in self.gauges(182, 100, 6):
            moves = [draws.screw(), draws.plain_screw(), (NOUGHT, NOUGHT)]
            found = fitting_move(gauge)
            if found is not None:
                moves.append(found)
                moves.append(screw(plus(six(found), times(TINY, six(draws.plain_screw())))))
            for move in moves:
                fits = fits_move(gauge, move)
                self.assertIs(fits, own_fits(gauge, move))
                self.assertIs(fits_move(move=move, gauge=gauge), fits)
                seen[fits] += 1
        self.assertGreater(min(seen.values()), 50)

    def test_ends_of_a_stretch_fit(self):
        gauge = ((NOUGHT, X, NEAR), (Y, triple((0, 0, 2)), ((1, 3), (1, 3))))
        for slide, lift, fits in [
            (Fraction(1, 10), Fraction(1, 6), True), (Fraction(-1, 10), Fraction(1, 6), True),
            (Fraction(1, 10) + TINY, Fraction(1, 6), False), (-Fraction(1, 10) - TINY, Fraction(1, 6), False),
            (0, Fraction(1, 6) + TINY, False), (0, Fraction(1, 6) - TINY, False),
        ]:
            self.assertIs(fits_move(gauge, screw([0, 0, 0, slide, 0, lift])), fits)

    def test_fitting_or_misfit(self):
        seen = {True: 0, False: 0}
        for _, gauge in self.gauges(183, 250):
            seen[self.check_fit(gauge)] += 1
        self.assertGreater(min(seen.values()), 15)
        for _, gauge in self.gauges(184, 80, fitted=True):
            self.check_fit(gauge, True)

    def test_gauges_that_no_move_fits(self):
        pins = ((NOUGHT, Z, ((0, 1), (0, 1))), (triple((2, 0, 0)), Z, ((0, 1), (0, 1))))
        for low, high, fits in [((0, 1), (0, 1), True), ((-1, 1), (1, 1), True), ((1, 10 ** 30), (1, 1), False),
                                ((-1, 1), (-1, 10 ** 30), False)]:
            self.check_fit(pins + ((X, Z, (low, high)),), fits)
        self.check_fit(((X, Y, ((1, 1), (2, 1))), (X, Y, ((3, 1), (4, 1)))), False)
        self.check_fit(((X, Y, ((1, 1), (2, 1))), (X, Y, ((2, 1), (4, 1)))), True)
        self.check_fit(((X, Y, ((1, 1), (2, 1))), (X, triple((0, -1, 0)), ((-1, 1), (4, 1)))), True)
        self.check_fit(((X, Y, ((1, 1), (2, 1))), (X, triple((0, -2, 0)), ((-1, 1), (4, 1)))), False)

    def test_large_numbers(self):
        draws = GaugeDraws(185)
        far = 10 ** 30
        for _ in range(6):
            gauge = tuple(
                (triple([draws.whole(-far, far) for _ in range(3)]), triple([draws.whole(1, far) for _ in range(3)]),
                 (pair(-abs(draws.number())), pair(draws.whole(0, far)))) for _ in range(12)
            )
            self.check_fit(gauge, True)
            mark = (triple([draws.whole(-far, far) for _ in range(3)]), X)
            self.assertTrue(self.check_mark(gauge, mark))
            low, high = [number(end) for end in mark_range(gauge, mark)]
            self.check_fit(gauge[:11] + (gauge[11],), True)
            self.assertLessEqual(low, 0)
            self.assertLessEqual(0, high)


class Errors(Case):
    def test_errors_of_moves(self):
        seen = {True: 0, False: 0}
        for draws, gauge in self.gauges(186, 120):
            rows = [six(push)[3:] + six(push)[:3] for push in pushes_of(gauge)]
            rank = own_rank(rows)
            move = draws.screw()
            told = [worth(push, move) for push in pushes_of(gauge)]
            self.assertIs(errors_fit(gauge, tuple(pair(value) for value in told)), True)
            for _ in range(3):
                changed = list(told)
                changed[draws.whole(0, len(gauge) - 1)] += draws.pick((TINY, 1, Fraction(-1, 3)))
                value = tuple(pair(part) for part in changed)
                expected = own_rank([row + [part] for row, part in zip(rows, changed)]) == rank
                self.assertIs(errors_fit(gauge, value), expected)
                self.assertIs(errors_fit(value=value, gauge=gauge), expected)
                seen[expected] += 1
        self.assertGreater(min(seen.values()), 40)

    def test_errors_of_anything(self):
        gauge = ((X, Y, NEAR), (NOUGHT, Z, NEAR))
        good = ((5, 1), (-7, 3))
        self.assertIs(errors_fit(gauge, good), True)
        for value in ANYTHING + [list(good), good[:1], good + ((0, 1),), (), (good,), {good: 1}, (5, 1), ((5, 1), 3)]:
            self.assertIs(errors_fit(gauge, value), False, value)
        for wrong in WRONG_FRACTIONS:
            self.assertIs(errors_fit(gauge, (good[0], wrong)), False)
            self.assertIs(errors_fit(gauge, (wrong, good[1])), False)
        twice = gauge + gauge[:1]
        self.assertIs(errors_fit(twice, good + good[:1]), True)
        self.assertIs(errors_fit(twice, good + good[1:]), False)


class Marks(Case):
    def test_settled_or_blind(self):
        seen = {True: 0, False: 0}
        for draws, gauge in self.gauges(187, 250):
            for _ in range(2):
                seen[self.check_mark(gauge, draws.mark(gauge))] += 1
        self.assertGreater(min(seen.values()), 40)

    def test_told_marks(self):
        pins = tuple((triple(point), Z, NEAR) for point in ((0, 0, 0), (2, 0, 0), (0, 2, 0)))
        for point, way, settled in [
            ((5, 7, 0), Z, True), ((5, 7, 9), Z, True), ((5, 7, 9), triple((0, 0, -4)), True), ((0, 0, 0), X, False),
            ((1, 1, 0), triple((0, 1, 10 ** 9)), False),
        ]:
            self.assertIs(self.check_mark(pins, (triple(point), way)), settled)
        # Pins along one line settle just the marks at it.
        row = tuple((triple((at, 0, 0)), Z, NEAR) for at in range(6))
        self.assertTrue(self.check_mark(row, (triple((-3, 0, 8)), Z)))
        self.assertFalse(self.check_mark(row, (triple((-3, TINY, 8)), Z)))

    def check_range(self, gauge, mark):
        """The range by own sums, its papers, and the gauge with one pin more at the mark."""
        found, weights = mark_range(gauge, mark), range_weights(gauge, mark)
        expected = own_range(gauge, mark)
        self.assertEqual((mark_range(mark=mark, gauge=gauge), range_weights(mark=mark, gauge=gauge)), (found, weights))
        if expected is None:
            self.assertIsNone(found)
            self.assertIsNone(weights)
            self.assertIs(is_settled_mark(gauge, mark), False)
            return False
        self.assertIs(type(found), tuple)
        self.assertEqual(found, (pair(expected[0]), pair(expected[1])))
        self.assertIs(type(weights), tuple)
        self.assertEqual(len(weights), 2)
        least, greatest = [self.check_fractions(shares, gauge) for shares in weights]
        for shares in (least, greatest):
            self.assertEqual(own_made(gauge, shares), six(push_of(mark)))
        self.assertEqual(own_sum(least, gauge, True), expected[0])
        self.assertEqual(own_sum(greatest, gauge), expected[1])
        if len(gauge) < 12:
            self.check_with_a_pin(gauge, mark, expected)
        return True

    def check_with_a_pin(self, gauge, mark, ends):
        low, high = ends
        for first, last, fits in [
            (low, low, True), (high, high, True), (low, high, True), (high + TINY, high + 1, False),
            (low - 1, low - TINY, False), ((low + high) / 2, (low + high) / 2, True),
        ]:
            self.check_fit(gauge + (mark + ((pair(first), pair(last)),),), fits)
        middle = (low + high) / 2
        narrower = gauge + (mark + ((pair(low - 1), pair(middle)),),)
        self.assertEqual(mark_range(narrower, mark), (pair(low), pair(middle)))

    def test_ranges(self):
        seen = {True: 0, False: 0}
        for draws, gauge in self.gauges(188, 80, 8):
            if not self.check_fit(gauge):
                continue
            for _ in range(2):
                seen[self.check_range(gauge, draws.mark(gauge))] += 1
        self.assertGreater(min(seen.values()), 20)

    def test_ranges_of_full_gauges(self):
        draws = GaugeDraws(189)
        for _ in range(4):
            gauge = draws.gauge(11, 10, True)
            self.check_range(gauge, draws.mark(gauge))
        gauge = draws.gauge(12, 12, True)
        found = mark_range(gauge, gauge[0][:2])
        self.assertTrue(found[0] <= found[1] or number(found[0]) <= number(found[1]))
        moved = fitting_move(gauge)
        self.assertLessEqual(number(found[0]), worth(push_of(gauge[0]), moved))
        self.assertLessEqual(worth(push_of(gauge[0]), moved), number(found[1]))

    def test_shifts_of_moves_that_fit(self):
        for draws, gauge in self.gauges(190, 60, 7, 2, True):
            mark = draws.mark(gauge)
            found = mark_range(gauge, mark)
            shift = worth(push_of(mark), fitting_move(gauge))
            if found is not None:
                self.assertLessEqual(number(found[0]), shift)
                self.assertLessEqual(shift, number(found[1]))
            else:
                for told in (Fraction(10 ** 20), Fraction(-1, 3)):
                    pinned = gauge + (mark + ((pair(told), pair(told)),),)
                    self.check_fit(pinned, True)

    def test_independent_pins(self):
        # All errors come with a move, so each pin shifts through its own stretch.
        spots = (
            ((0, 0, 0), (0, 0, 1)), ((2, 0, 0), (0, 0, 1)), ((0, 2, 0), (0, 0, 1)), ((0, 0, 0), (0, 1, 0)),
            ((2, 0, 0), (0, 1, 0)), ((0, 0, 0), (1, 0, 0)),
        )
        gauge = tuple(
            (triple(point), triple(way), (pair(Fraction(-at, 7)), (1, at + 1))) for at, (point, way) in enumerate(spots)
        )
        for pin in gauge:
            self.assertEqual(mark_range(gauge, pin[:2]), pin[2])
            longer = (pin[0], triple(times(-3, vector(pin[1]))))
            low, high = [number(end) for end in pin[2]]
            self.assertEqual(mark_range(gauge, longer), (pair(-3 * high), pair(-3 * low)))

    def test_narrower_stretches_and_more_pins(self):
        for draws, gauge in self.gauges(191, 60, 7, 2, True):
            mark = draws.mark(gauge)
            wide = mark_range(gauge, mark)
            if wide is None:
                continue
            move = fitting_move(gauge)
            narrow = []
            for pin in gauge:
                told = worth(push_of(pin), move)
                low, high = [(number(end) + told) / 2 for end in pin[2]]
                narrow.append(pin[:2] + ((pair(low), pair(high)),))
            spot = draws.spot()
            told = worth(push_of(spot), move)
            more = gauge + (spot + ((pair(told - Fraction(1, 2)), pair(told + Fraction(1, 3))),),)
            for other in (tuple(narrow), more):
                self.check_fit(other, True)
                found = mark_range(other, mark)
                self.assertLessEqual(number(wide[0]), number(found[0]))
                self.assertLessEqual(number(found[1]), number(wide[1]))
                self.assertLessEqual(number(found[0]), number(found[1]))

    def test_placed(self):
        for draws, gauge in self.gauges(192, 40, 7, 2):
            placing, mark = draws.placing(), draws.mark(gauge)
            turn = lambda way: own_led(placing, (NOUGHT, way))[1]
            other = tuple((triple(own_placed(placing, point)), turn(way), told) for point, way, told in gauge)
            led = (triple(own_placed(placing, mark[0])), turn(mark[1]))
            self.assertIs(is_settled_mark(other, led), is_settled_mark(gauge, mark))
            if self.check_fit(other, fitting_move(gauge) is not None):
                self.assertEqual(mark_range(other, led), mark_range(gauge, mark))

    def test_greatest_gauges_in_time(self):
        draws = GaugeDraws(193)
        for _ in range(6):
            gauge = draws.gauge(12, 12)
            mark = draws.mark(gauge)
            start = time.process_time()
            if self.check_fit(gauge):
                mark_range(gauge, mark)
                range_weights(gauge, mark)
            self.check_mark(gauge, mark)
            self.assertLess(time.process_time() - start, 5)


PIN = (X, Y, NEAR)


def wrong_spots():
    found = list(ANYTHING) + [(), (X,), (X, Y, Z), [X, Y], X, {X: Y}, (X, NOUGHT), ((X, Y),), (X, (X, Y))]
    return found + [(value, Y) for value in WRONG_TRIPLES] + [(X, value) for value in WRONG_DIRECTIONS]


def wrong_pins():
    found = [value + (NEAR,) for value in wrong_spots() if isinstance(value, tuple)]
    found += list(ANYTHING) + [(X, Y), (X, Y, NEAR, NEAR), [X, Y, NEAR], (X, Y, list(NEAR)), (X, Y, NEAR[:1])]
    found += [(X, Y, NEAR + NEAR), (X, Y) + NEAR, (X, Y, NEAR[::-1]), (X, Y, ((1, 1), (-1, 1))), (NEAR, X, Y)]
    found += [(X, Y, None), (X, Y, ())]
    found += [(X, Y, ((1, 3), (333333333333333333333333, 10 ** 24))), (X, Y, {NEAR[0]: NEAR[1]}), ((X, Y), NEAR)]
    found += [(X, Y, (value, (10 ** 31, 1))) for value in WRONG_FRACTIONS]
    return found + [(X, Y, ((-10 ** 31, 1), value)) for value in WRONG_FRACTIONS]


def wrong_gauges():
    found = [((), None), ([], None), ([PIN], None), ({PIN: 1}, None), (PIN, 0), ((PIN, [PIN]), 1), ("pin", None)]
    found += [(value, 0 if isinstance(value, tuple) and value else None) for value in ANYTHING]
    found += [((PIN,) * place + (value, None), place) for place in (0, 11) for value in wrong_pins()]
    found += [((PIN,) * 12 + (last,), 12) for last in (PIN, None)] + [((PIN,) * 60, 12)]
    return found


WRONG_GAUGES = wrong_gauges()


class Refusals(Case):
    good = (PIN, (NOUGHT, Z, NEAR))
    gauges_told = indexed(WRONG_GAUGES, InvalidGauge)
    marks = given(wrong_spots(), InvalidMark)

    def test_gauges(self):
        for function in (fitting_move, misfit_weights):
            check_refusals(self, function, {"gauge": self.good}, {"gauge": self.gauges_told})

    def test_errors_fit(self):
        for value, error, kept in self.gauges_told[::5]:
            for told in ((), None, ((0, 1), (0, 1))):
                refused(self, error, lambda: errors_fit(value, told), kept)
                refused(self, error, lambda: errors_fit(value=told, gauge=value), kept)

    def test_moves(self):
        check_refusals(self, fits_move, {"gauge": self.good, "move": (X, Y)}, {
            "gauge": self.gauges_told, "move": given(WRONG_SCREWS, InvalidScrew),
        })

    def test_marks(self):
        for function in (is_settled_mark, mark_shares, blind_move, mark_range, range_weights):
            check_refusals(self, function, {"gauge": self.good, "mark": (X, Y)}, {
                "gauge": self.gauges_told[::7], "mark": self.marks,
            })

    def test_no_move_fits_last(self):
        wrong = ((X, Y, ((1, 1), (2, 1))), (X, Y, ((3, 1), (4, 1))))
        for function in (mark_range, range_weights):
            # Of a settled mark, and of one that is not; behind what is wrong with the arguments.
            for mark in ((X, Y), (X, Z), (Z, X)):
                refused(self, NoMoveFits, lambda: function(wrong, mark), {})
                refused(self, NoMoveFits, lambda: function(mark=mark, gauge=wrong), {})
            refused(self, InvalidMark, lambda: function(wrong, (X, NOUGHT)), {})
            refused(self, InvalidGauge, lambda: function(wrong + (None,), (X, Y)), {"index": 2})
            self.assertIsNone(function(wrong[:1], (X, Z)))
        for function in (is_settled_mark, mark_shares, blind_move):
            function(wrong, (X, Y))


if __name__ == "__main__":
    unittest.main()
