"""Turnings and placings ([8], [9], [13])."""
import unittest
from fractions import Fraction
from math import gcd

from sevenpins.errors import InvalidPlacing, InvalidScrew, InvalidTriple, InvalidTurning
from sevenpins.screws import moment_at, pitch_of, power
from sevenpins.turnings import (
    back_placing, back_turning, is_placing, is_turning, joined_placings, joined_turnings, placed, placed_screw, turned,
    turning_of,
)
from tests.helpers import (
    ANYTHING, NOUGHT, NO_TUPLES, WRONG_SCREWS, WRONG_TRIPLES, X, Y, Z, Draws, assert_triple, check_refusals, given,
    inner, outer, plain_turning, plus, same_screw, same_vector, six, times, triple, vector,
)

STILL = (1, 0, 0, 0)
REST = (STILL, NOUGHT)
BIG = 10 ** 25
WRONG_TURNINGS = ANYTHING + [
    (), (1,), (1, 0, 0), (1, 0, 0, 0, 0), [1, 0, 0, 0], (0, 0, 0, 0), (2, 0, 0, 2), (0, -1, 0, 0), (-1, 0, 0, 0),
    (0, 0, -2, 3), (0, 0, 0, -1), (2, 0, 0, 0), (0, 0, 0, 5), (2, 4, 6, 8), (-1, 1, 1, 1), (True, 0, 0, 0),
    (1, False, 0, 0), (1, 0, 0, None), ("1", 0, 0, 0), (1, 0, 0, (0, 1)), ((1, 1), (0, 1), (0, 1), (0, 1)), "1000",
    b"abcd", {1: 0, 0: 1, 2: 3, 4: 5}, {1, 0, 2, 3}, (1, 0, 0, "0"), (3 * BIG, 0, 6, 0), (1, [0], 0, 0),
    ((1, 0, 0, 0),), (1, 0, 0, b""),
]
WRONG_PLACINGS = ANYTHING + [
    (), (STILL,), (STILL, NOUGHT, NOUGHT), [STILL, NOUGHT], (NOUGHT, STILL), (STILL, STILL), (NOUGHT, NOUGHT), STILL,
    (list(STILL), NOUGHT), (STILL, list(NOUGHT)), (STILL, (0, 0, 0)), ((2, 0, 0, 0), X), ((-1, 0, 0, 0), X),
    ((0, 0, 0, 0), X), (STILL, ((2, 4), (0, 1), (0, 1))), (STILL, None), (None, X), (STILL, X + X), {STILL: X},
    {STILL, X}, (STILL, (X, Y)), ((STILL, X), Y), (X, Y), ((1, 0, 0), X), (STILL, (X[0], X[0])), (STILL + NOUGHT,),
    ((STILL, X),),
]


def own_turned(turning, values):
    w, u = turning[0], list(turning[1:])
    square = inner(u, u)
    total = plus(times(w * w - square, values), times(2 * inner(u, values), u))
    return times(Fraction(1) / (w * w + square), plus(total, times(2 * w, outer(u, values))))


def own_placed(placing, values):
    return plus(own_turned(placing[0], values), vector(placing[1]))


class Kinds(unittest.TestCase):
    def test_is_turning(self):
        good = [
            STILL, (0, 1, 0, 0), (0, 0, 0, 1), (1, 0, 0, 1), (1, -1, 0, 0), (0, 1, -1, 0), (0, 0, 2, -3), (3, -5, 7, 2),
            (BIG, 1, 0, 0), (1, 0, -BIG, 0), (2, 4, 6, 9), (2, 0, 0, 3),
        ]
        for value in good:
            self.assertIs(is_turning(value), True, value)
            self.assertIs(is_turning(value=value), True, value)
        for value in WRONG_TURNINGS:
            self.assertIs(is_turning(value), False, value)

    def test_is_turning_drawn(self):
        draws = Draws(31)
        for _ in range(400):
            value = tuple(draws.whole(-3, 3) for _ in range(4))
            parts = [part for part in value if part]
            self.assertIs(is_turning(value), bool(parts) and gcd(*value) == 1 and parts[0] > 0)

    def test_is_placing(self):
        draws = Draws(32)
        for value in [REST, (STILL, X), ((0, 0, 1, 0), Y)] + [draws.placing() for _ in range(100)]:
            self.assertIs(is_placing(value), True, value)
            self.assertIs(is_placing(value=value), True, value)
        for value in WRONG_PLACINGS + WRONG_TURNINGS:
            self.assertIs(is_placing(value), False, value)


class Turnings(unittest.TestCase):
    def test_turning_of(self):
        cases = [
            ((2, 0, 0, 2), (1, 0, 0, 1)), ((-2, 0, 0, 4), (1, 0, 0, -2)), ((0, -1, 0, 0), (0, 1, 0, 0)), (STILL, STILL),
            ((0, 0, -3, 6), (0, 0, 1, -2)), ((-BIG, BIG, 0, 0), (1, -1, 0, 0)), ((0, 0, 0, -7), (0, 0, 0, 1)),
            ((3, -5, 7, 2), (3, -5, 7, 2)), ((-6, 4, 0, -2), (3, -2, 0, 1)), ((-1, 0, 0, 0), STILL),
        ]
        for numbers, expected in cases:
            self.assertEqual(turning_of(numbers), expected)
            self.assertEqual(turning_of(numbers=numbers), expected)

    def test_turning_of_multiples(self):
        draws = Draws(33)
        for _ in range(200):
            turning = draws.turning()
            factor = draws.pick((1, -1, 2, -3, BIG, -BIG * 7))
            found = turning_of(tuple(factor * part for part in turning))
            self.assertEqual(found, turning)
            self.assertIs(type(found), tuple)
            self.assertIs(is_turning(found), True)

    def test_turned(self):
        draws = Draws(34)
        for _ in range(200):
            turning, told = draws.turning(), draws.triple()
            same_vector(self, turned(turning, told), own_turned(turning, vector(told)))
            self.assertEqual(turned(triple=told, turning=turning), turned(turning, told))
            self.assertEqual(turned(STILL, told), told)
        self.assertEqual([turned((1, 0, 0, 1), told) for told in (X, Y, Z)], [Y, triple((-1, 0, 0)), Z])
        self.assertEqual([turned((0, 1, 0, 0), told) for told in (X, Y)], [X, triple((0, -1, 0))])
        self.assertEqual([turned((1, 1, 1, 1), told) for told in (X, Y, Z)], [Y, Z, X])
        self.assertEqual(turned((2, 1, 0, 0), Y), triple((0, Fraction(3, 5), Fraction(4, 5))))

    def test_products_stay_and_go_along(self):
        draws = Draws(35)
        for _ in range(200):
            turning, a, b = draws.turning(), draws.triple(), draws.triple()
            led_a, led_b = vector(turned(turning, a)), vector(turned(turning, b))
            self.assertEqual(inner(led_a, led_b), inner(vector(a), vector(b)))
            same_vector(self, turned(turning, triple(outer(vector(a), vector(b)))), outer(led_a, led_b))
            axis = triple(turning[1:])
            self.assertEqual(turned(turning, axis), axis)

    def test_the_angle(self):
        # Half of it has the tangent |u| / w, so its own cosine is (w w - u . u) / (w w + u . u).
        draws = Draws(36)
        for _ in range(200):
            turning, told = draws.turning(), vector(draws.triple())
            w, u = turning[0], list(turning[1:])
            across = outer(u, told)
            square = inner(u, u)
            cosine = Fraction(w * w - square) / (w * w + square)
            led = vector(turned(turning, triple(across)))
            self.assertEqual(inner(led, across), cosine * inner(across, across))
            self.assertEqual(inner(outer(across, led), u) > 0, w > 0 and any(across))
            self.assertGreaterEqual(inner(outer(across, led), u), 0)

    def test_joined_turns_as_the_first_and_then_the_second(self):
        draws = Draws(37)
        unlike = 0
        for _ in range(200):
            first, second, told = draws.turning(), draws.turning(), draws.triple()
            both = joined_turnings(first, second)
            self.assertIs(is_turning(both), True)
            self.assertEqual(turned(both, told), turned(second, turned(first, told)))
            self.assertEqual(joined_turnings(other=second, turning=first), both)
            unlike += both != joined_turnings(second, first)
            self.assertEqual(joined_turnings(first, STILL), first)
            self.assertEqual(joined_turnings(STILL, first), first)
        self.assertGreater(unlike, 50)
        self.assertEqual(joined_turnings((1, 0, 0, 1), (1, 0, 0, 1)), (0, 0, 0, 1))
        self.assertEqual(joined_turnings((1, 0, 0, 1), (1, 1, 0, 0)), (1, 1, -1, 1))

    def test_back(self):
        draws = Draws(38)
        for _ in range(200):
            turning, told = draws.turning(), draws.triple()
            back = back_turning(turning)
            self.assertIs(is_turning(back), True)
            self.assertEqual(joined_turnings(turning, back), STILL)
            self.assertEqual(joined_turnings(back, turning), STILL)
            self.assertEqual(turned(back, turned(turning, told)), told)
            self.assertEqual(back_turning(turning=back), turning)
        self.assertEqual(back_turning((0, 1, -2, 0)), (0, 1, -2, 0))
        self.assertEqual(back_turning((1, 0, 0, 1)), (1, 0, 0, -1))
        self.assertEqual(back_turning((5, -2, 3, 0)), (5, 2, -3, 0))

    def test_just_one_turning_for_each_turn(self):
        draws = Draws(39)
        for _ in range(200):
            first = plain_turning([1] + [draws.whole(-1, 1) for _ in range(3)])
            second = plain_turning([draws.whole(0, 1)] + [1] + [draws.whole(-1, 1) for _ in range(2)])
            alike = all(turned(first, axis) == turned(second, axis) for axis in (X, Y, Z))
            self.assertEqual(alike, first == second)


class Placings(unittest.TestCase):
    def test_placed(self):
        draws = Draws(40)
        for _ in range(200):
            placing, point = draws.placing(), draws.triple()
            same_vector(self, placed(placing, point), own_placed(placing, vector(point)))
            self.assertEqual(placed(point=point, placing=placing), placed(placing, point))
            self.assertEqual(placed(REST, point), point)
        self.assertEqual(placed(((1, 0, 0, 1), X), X), triple((1, 1, 0)))

    def test_joined(self):
        draws = Draws(41)
        for _ in range(200):
            first, second, point = draws.placing(), draws.placing(), draws.triple()
            both = joined_placings(first, second)
            self.assertIs(is_placing(both), True)
            self.assertEqual(placed(both, point), placed(second, placed(first, point)))
            self.assertEqual(joined_placings(other=second, placing=first), both)
            told = draws.screw()
            self.assertEqual(placed_screw(both, told), placed_screw(second, placed_screw(first, told)))
            self.assertEqual(joined_placings(first, REST), first)
            self.assertEqual(joined_placings(REST, first), first)

    def test_back(self):
        draws = Draws(42)
        for _ in range(200):
            placing, point, told = draws.placing(), draws.triple(), draws.screw()
            back = back_placing(placing)
            self.assertIs(is_placing(back), True)
            self.assertEqual(back_placing(placing=back), placing)
            self.assertEqual(joined_placings(placing, back), REST)
            self.assertEqual(joined_placings(back, placing), REST)
            self.assertEqual(placed(back, placed(placing, point)), point)
            self.assertEqual(placed_screw(back, placed_screw(placing, told)), told)
        self.assertEqual(back_placing((STILL, X)), (STILL, triple((-1, 0, 0))))

    def test_placed_screw(self):
        draws = Draws(43)
        for _ in range(200):
            placing, told = draws.placing(), draws.screw()
            line, moment = six(told)[:3], six(told)[3:]
            led = own_turned(placing[0], line)
            expected = led + plus(own_turned(placing[0], moment), outer(vector(placing[1]), led))
            same_screw(self, placed_screw(placing, told), expected)
            self.assertEqual(placed_screw(screw=told, placing=placing), placed_screw(placing, told))
            self.assertEqual(placed_screw(REST, told), told)

    def test_moments_are_turned_and_powers_and_pitches_stay(self):
        draws = Draws(44)
        for _ in range(200):
            placing, told, other, point = draws.placing(), draws.screw(), draws.screw(), draws.triple()
            led, led_other = placed_screw(placing, told), placed_screw(placing, other)
            self.assertEqual(moment_at(led, placed(placing, point)), turned(placing[0], moment_at(told, point)))
            self.assertEqual(power(led, led_other), power(told, other))
            self.assertEqual(pitch_of(led), pitch_of(told))


class Refusals(unittest.TestCase):
    def test_turning_of(self):
        wrong = ANYTHING + [
            (), (1, 2, 3), (1, 2, 3, 4, 5), [1, 2, 3, 4], (1, 2, 3, True), (False, 1, 1, 1), ("1", 2, 3, 4),
            (1, 2, None, 4), (1, 2, 3, "4"), (1, (2,), 3, 4), (1, 2, 3, [4]), "1234", b"1234",
            {1: 2, 3: 4, 5: 6, 7: 8}, {1, 2, 3, 4}, ((1, 1), (2, 1), (3, 1), (4, 1)), ((1, 2, 3, 4),), (0, 0, 0, 0),
        ]
        check_refusals(self, turning_of, {"numbers": (1, 2, 3, 4)}, {"numbers": given(wrong, InvalidTurning)})

    def test_turnings(self):
        turnings = given(WRONG_TURNINGS, InvalidTurning)
        check_refusals(self, back_turning, {"turning": STILL}, {"turning": turnings})
        check_refusals(self, joined_turnings, {"turning": STILL, "other": STILL}, {
            "turning": turnings, "other": turnings,
        })
        check_refusals(self, turned, {"turning": STILL, "triple": X}, {
            "turning": turnings, "triple": given(WRONG_TRIPLES, InvalidTriple),
        })

    def test_placings(self):
        placings = given(WRONG_PLACINGS, InvalidPlacing)
        check_refusals(self, back_placing, {"placing": REST}, {"placing": placings})
        check_refusals(self, joined_placings, {"placing": REST, "other": REST}, {
            "placing": placings, "other": placings,
        })
        check_refusals(self, placed, {"placing": REST, "point": X}, {
            "placing": placings, "point": given(WRONG_TRIPLES, InvalidTriple),
        })
        check_refusals(self, placed_screw, {"placing": REST, "screw": (X, Y)}, {
            "placing": placings, "screw": given(WRONG_SCREWS, InvalidScrew),
        })

    def test_what_is_returned_may_be_passed(self):
        placing = ((BIG ** 15 + 1, BIG ** 15, 3, -BIG ** 15), triple([Fraction(1, BIG ** 15 + at) for at in range(3)]))
        for _ in range(3):
            placing = joined_placings(placing, placing)
        self.assertIs(is_placing(placing), True)
        led = placed(placing, X)
        assert_triple(self, led)
        self.assertEqual(placed(back_placing(placing), led), X)

    def test_no_tuples(self):
        for value in NO_TUPLES:
            self.assertIs(is_turning(value), False)
            self.assertIs(is_placing(value), False)


if __name__ == "__main__":
    unittest.main()
