"""Fractions, triples, directions ([6], [7])."""
import unittest
from fractions import Fraction
from math import gcd

from sevenpins.errors import InvalidDirection, InvalidFraction, InvalidNumber, InvalidTriple
from sevenpins.triples import (
    cross, dot, fraction_of, is_direction, is_fraction, is_triple, plain_direction, triple_sum, triple_times,
)
from tests.helpers import (
    ANYTHING, NOUGHT, WRONG_DIRECTIONS, WRONG_FRACTIONS, WRONG_TRIPLES, WRONG_WHOLES, X, Y, Z, Draws,
    assert_fraction, assert_triple, check_refusals, given, inner, number, outer, plus, same_number, same_vector,
    times, triple, vector,
)

BIG = 10 ** 27 + 1


class Kinds(unittest.TestCase):
    def test_is_fraction(self):
        good = [(0, 1), (1, 1), (-1, 1), (1, 2), (-3, 2), (7, 10), (BIG, 1), (-BIG, 10 ** 27), (1, BIG), (2, 3), (3, 2),
                (10 ** 399, 7), (-5, 4)]
        for value in good:
            self.assertIs(is_fraction(value), True, value)
            self.assertIs(is_fraction(value=value), True, value)
        for value in WRONG_FRACTIONS:
            self.assertIs(is_fraction(value), False, value)

    def test_is_triple(self):
        good = [NOUGHT, X, Y, Z, ((1, 2), (-1, 3), (0, 1)), ((BIG, 2), (1, BIG), (-BIG, 1)), ((0, 1),) * 3]
        for value in good:
            self.assertIs(is_triple(value), True, value)
            self.assertIs(is_triple(value=value), True, value)
        for value in WRONG_TRIPLES + WRONG_FRACTIONS:
            self.assertIs(is_triple(value), False, value)

    def test_is_direction(self):
        good = [X, Y, Z, ((1, 2), (-1, 3), (0, 1)), ((0, 1), (0, 1), (-1, BIG)), ((0, 1), (-7, 2), (0, 1)),
                ((5, 1),) * 3]
        for value in good:
            self.assertIs(is_direction(value), True, value)
            self.assertIs(is_direction(value=value), True, value)
        for value in WRONG_DIRECTIONS + WRONG_FRACTIONS:
            self.assertIs(is_direction(value), False, value)

    def test_drawn(self):
        draws = Draws(1)
        for _ in range(300):
            above, below = draws.whole(-6, 6), draws.whole(-6, 6)
            self.assertIs(is_fraction((above, below)), below > 0 and gcd(above, below) == 1)
            told = draws.triple()
            self.assertIs(is_triple(told), True)
            self.assertIs(is_direction(told), any(vector(told)))


class Sums(unittest.TestCase):
    def test_fraction_of(self):
        cases = [
            (6, -4, (-3, 2)), (0, 5, (0, 1)), (0, -5, (0, 1)), (-6, -4, (3, 2)), (7, 1, (7, 1)), (7, -1, (-7, 1)),
            (10, 5, (2, 1)), (5, 10, (1, 2)), (BIG * 6, BIG * 4, (3, 2)), (1, -BIG, (-1, BIG)), (-4, 6, (-2, 3)),
        ]
        for first, second, expected in cases:
            self.assertEqual(fraction_of(first, second), expected)
            self.assertEqual(fraction_of(other=second, number=first), expected)

    def test_fraction_of_drawn(self):
        draws = Draws(2)
        for _ in range(300):
            size = draws.pick((5, 30, 10 ** 25))
            first, second = draws.whole(-size, size), draws.whole(-size, size)
            if second:
                same_number(self, fraction_of(first, second), Fraction(first, second))

    def test_triple_sum(self):
        self.assertEqual(triple_sum(X, ((1, 2), (-1, 3), (0, 1))), ((3, 2), (-1, 3), (0, 1)))
        draws = Draws(3)
        for _ in range(300):
            first, second = draws.triple(), draws.triple()
            same_vector(self, triple_sum(first, second), plus(vector(first), vector(second)))
            same_vector(self, triple_sum(other=first, triple=second), plus(vector(first), vector(second)))
            opposite = triple(times(-1, vector(first)))
            self.assertEqual(triple_sum(first, opposite), NOUGHT)

    def test_triple_times(self):
        self.assertEqual(triple_times(((1, 2), (-1, 3), (5, 1)), (6, 1)), ((3, 1), (-2, 1), (30, 1)))
        draws = Draws(4)
        for _ in range(300):
            told, factor = draws.triple(), draws.fraction()
            same_vector(self, triple_times(told, factor), times(number(factor), vector(told)))
            same_vector(self, triple_times(fraction=factor, triple=told), times(number(factor), vector(told)))
            self.assertEqual(triple_times(told, (0, 1)), NOUGHT)
            self.assertEqual(triple_times(told, (1, 1)), told)

    def test_dot(self):
        draws = Draws(5)
        for _ in range(300):
            first, second = draws.triple(), draws.triple()
            same_number(self, dot(first, second), inner(vector(first), vector(second)))
            self.assertEqual(dot(other=first, triple=second), dot(first, second))
        self.assertEqual(dot(X, Y), (0, 1))
        self.assertEqual(dot(((1, 2), (1, 3), (1, 6)), ((1, 1), (1, 1), (1, 1))), (1, 1))

    def test_cross(self):
        self.assertEqual([cross(X, Y), cross(Y, Z), cross(Z, X)], [Z, X, Y])
        draws = Draws(6)
        for _ in range(300):
            first, second = draws.triple(), draws.triple()
            same_vector(self, cross(first, second), outer(vector(first), vector(second)))
            same_vector(self, cross(other=second, triple=first), outer(vector(first), vector(second)))
            self.assertEqual(cross(first, first), NOUGHT)

    def test_returned_is_reduced(self):
        half, third = ((1, 2), (1, 6), (-1, 10)), ((1, 2), (1, 3), (1, 10))
        for told in (triple_sum(half, third), triple_times(half, (2, 1)), cross(half, third), plain_direction(half)):
            assert_triple(self, told)
        assert_fraction(self, dot(half, third))
        self.assertEqual(triple_sum(half, third), ((1, 1), (1, 2), (0, 1)))


class Plain(unittest.TestCase):
    def is_plain(self, told):
        assert_triple(self, told)
        self.assertEqual([below for _, below in told], [1, 1, 1])
        numbers = [above for above, _ in told]
        self.assertEqual(gcd(*numbers), 1)
        self.assertGreater([value for value in numbers if value][0], 0)

    def test_told(self):
        cases = [
            (((0, 1), (-1, 2), (1, 3)), (0, 3, -2)), (X, (1, 0, 0)), (((-5, 1), (0, 1), (0, 1)), (1, 0, 0)),
            (((0, 1), (0, 1), (-1, 7)), (0, 0, 1)), (((4, 1), (6, 1), (-10, 1)), (2, 3, -5)),
            (((-1, 2), (1, 4), (1, 6)), (6, -3, -2)), (((0, 1), (2, 3), (4, 3)), (0, 1, 2)),
            (((2 * BIG, 3), (BIG, 1), (0, 1)), (2, 3, 0)), (((1, BIG), (-1, 1), (0, 1)), (1, -BIG, 0)),
        ]
        for told, expected in cases:
            self.assertEqual(plain_direction(told), triple(expected))
            self.assertEqual(plain_direction(direction=told), triple(expected))

    def test_one_for_each_direction(self):
        draws = Draws(7)
        for _ in range(300):
            told = draws.direction()
            plain = plain_direction(told)
            self.is_plain(plain)
            self.assertEqual(outer(vector(plain), vector(told)), [0, 0, 0])
            self.assertEqual(plain_direction(plain), plain)
            for factor in (draws.other_than_nought(), Fraction(-1), Fraction(1, 6), Fraction(-10 ** 22, 7)):
                self.assertEqual(plain_direction(triple(times(factor, vector(told)))), plain)
            other = draws.direction()
            along = not any(outer(vector(told), vector(other)))
            self.assertEqual(plain_direction(other) == plain, along)


class Refusals(unittest.TestCase):
    def test_fraction_of(self):
        check_refusals(self, fraction_of, {"number": 3, "other": 4}, {
            "number": given(WRONG_WHOLES, InvalidNumber),
            "other": given(WRONG_WHOLES + [0], InvalidNumber),
        })

    def test_nought_over_something_is_no_error(self):
        self.assertEqual(fraction_of(0, 3), (0, 1))

    def test_two_triples(self):
        for function in (triple_sum, dot, cross):
            check_refusals(self, function, {"triple": X, "other": NOUGHT}, {
                "triple": given(WRONG_TRIPLES, InvalidTriple),
                "other": given(WRONG_TRIPLES, InvalidTriple),
            })

    def test_triple_times(self):
        check_refusals(self, triple_times, {"triple": NOUGHT, "fraction": (0, 1)}, {
            "triple": given(WRONG_TRIPLES, InvalidTriple),
            "fraction": given(WRONG_FRACTIONS, InvalidFraction),
        })

    def test_plain_direction(self):
        directions = given(WRONG_DIRECTIONS, InvalidDirection)
        check_refusals(self, plain_direction, {"direction": X}, {"direction": directions})

    def test_anything_is_no_argument(self):
        for value in ANYTHING:
            for function in (dot, cross, triple_sum, triple_times):
                with self.assertRaises(InvalidTriple):
                    function(value, value)
            if type(value) is not int:
                with self.assertRaises(InvalidNumber):
                    fraction_of(value, value)

    def test_what_is_returned_may_be_passed(self):
        told = ((10 ** 390 + 1, 10 ** 391), (1, 10 ** 395), (-1, 10 ** 399 + 9))
        for _ in range(4):
            told = triple_sum(cross(told, X), triple_times(told, dot(told, told)))
        assert_triple(self, told)
        self.assertEqual(number(dot(told, told)), inner(vector(told), vector(told)))


if __name__ == "__main__":
    unittest.main()
