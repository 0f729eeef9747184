"""Screws, their powers, moments, pitches and axes ([10] to [12], [14])."""
import unittest
from fractions import Fraction

from sevenpins.errors import Along, InvalidDirection, InvalidFraction, InvalidScrew, InvalidTriple, NoAxis
from sevenpins.screws import (
    apart_square, axis_point, is_line, is_screw, line_at, moment_at, nearest_points, pitch_of, power, screw_about,
    screw_sum, screw_times, slide_along,
)
from tests.helpers import (
    ANYTHING, NOUGHT, WRONG_DIRECTIONS, WRONG_FRACTIONS, WRONG_LINES, WRONG_SCREWS, WRONG_TRIPLES, X, Y, Z, Draws,
    assert_screw, assert_triple, check_refusals, given, inner, minus, number, outer, own_moment, own_power, pair, plus,
    refused, same_number, same_screw, same_vector, screw, six, times, triple, vector,
)

NOUGHT_SCREW = (NOUGHT, NOUGHT)


def own_foot(told):
    line, moment = vector(told[0]), vector(told[1])
    return times(1 / inner(line, line), outer(line, moment))


def own_pitch(told):
    line, moment = vector(told[0]), vector(told[1])
    return inner(line, moment) / inner(line, line)


def are_along(first, second):
    return not any(outer(vector(first[0]), vector(second[0])))


class Kinds(unittest.TestCase):
    def test_is_screw(self):
        draws = Draws(11)
        good = [NOUGHT_SCREW, (X, Y), (X, X), (NOUGHT, X), (X, NOUGHT)] + [draws.screw() for _ in range(100)]
        for value in good:
            self.assertIs(is_screw(value), True, value)
            self.assertIs(is_screw(value=value), True, value)
        for value in WRONG_SCREWS + WRONG_TRIPLES:
            self.assertIs(is_screw(value), False, value)

    def test_is_line(self):
        draws = Draws(12)
        good = [(X, NOUGHT), (X, Y), (Y, Z), (((-2, 1), (1, 1), (0, 1)), ((1, 2), (1, 1), (9, 7)))]
        for value in good + [draws.line() for _ in range(100)]:
            self.assertIs(is_line(value), True, value)
            self.assertIs(is_line(value=value), True, value)
        for value in WRONG_LINES + WRONG_TRIPLES:
            self.assertIs(is_line(value), False, value)
        for _ in range(200):
            told = draws.screw()
            line, moment = vector(told[0]), vector(told[1])
            self.assertIs(is_line(told), any(line) and inner(line, moment) == 0)


class Making(unittest.TestCase):
    def test_line_at(self):
        draws = Draws(13)
        for _ in range(200):
            point, direction = draws.triple(), draws.direction()
            expected = vector(direction) + outer(vector(point), vector(direction))
            same_screw(self, line_at(point, direction), expected)
            same_screw(self, line_at(direction=direction, point=point), expected)
            self.assertIs(is_line(line_at(point, direction)), True)

    def test_slide_along(self):
        draws = Draws(14)
        for _ in range(100):
            direction = draws.direction()
            same_screw(self, slide_along(direction), [0, 0, 0] + vector(direction))
            self.assertEqual(slide_along(direction=direction), (NOUGHT, direction))

    def test_screw_about(self):
        draws = Draws(15)
        for _ in range(200):
            point, direction, pitch = draws.triple(), draws.direction(), draws.fraction()
            d = vector(direction)
            expected = d + plus(outer(vector(point), d), times(number(pitch), d))
            same_screw(self, screw_about(point, direction, pitch), expected)
            same_screw(self, screw_about(pitch=pitch, direction=direction, point=point), expected)
            self.assertEqual(screw_about(point, direction, (0, 1)), line_at(point, direction))

    def test_sums(self):
        draws = Draws(16)
        for _ in range(200):
            first, second, factor = draws.screw(), draws.screw(), draws.fraction()
            same_screw(self, screw_sum(first, second), plus(six(first), six(second)))
            same_screw(self, screw_sum(other=second, screw=first), plus(six(first), six(second)))
            same_screw(self, screw_times(first, factor), times(number(factor), six(first)))
            same_screw(self, screw_times(fraction=factor, screw=first), times(number(factor), six(first)))
        self.assertEqual(screw_times((X, Y), (0, 1)), NOUGHT_SCREW)
        self.assertEqual(screw_sum((X, Y), screw_times((X, Y), (-1, 1))), NOUGHT_SCREW)


class Powers(unittest.TestCase):
    def test_power(self):
        draws = Draws(17)
        for _ in range(300):
            push, move = draws.screw(), draws.screw()
            same_number(self, power(push, move), own_power(push, move))
            self.assertEqual(power(move, push), power(push, move))
            self.assertEqual(power(other=move, screw=push), power(push, move))
        self.assertEqual(power((X, NOUGHT), (NOUGHT, X)), (1, 1))
        self.assertEqual(power((X, NOUGHT), (X, NOUGHT)), (0, 1))
        self.assertEqual(power((X, X), (X, X)), (2, 1))

    def test_the_same_about_each_point(self):
        draws = Draws(18)
        for _ in range(200):
            push, move, point = draws.screw(), draws.screw(), draws.triple()
            there = (push[0], moment_at(push, point)), (move[0], moment_at(move, point))
            self.assertEqual(power(*there), power(push, move))

    def test_power_of_a_force(self):
        draws = Draws(19)
        for _ in range(200):
            point, force, move = draws.triple(), draws.direction(), draws.screw()
            expected = inner(vector(force), vector(moment_at(move, point)))
            self.assertEqual(number(power(line_at(point, force), move)), expected)

    def test_moment_at(self):
        draws = Draws(20)
        for _ in range(200):
            told, point = draws.screw(), draws.triple()
            same_vector(self, moment_at(told, point), own_moment(told, point))
            self.assertEqual(moment_at(point=point, screw=told), moment_at(told, point))
            self.assertEqual(moment_at(told, NOUGHT), told[1])
        self.assertEqual(moment_at((Z, NOUGHT), X), Y)


class Axes(unittest.TestCase):
    def test_pitch_of(self):
        draws = Draws(21)
        for _ in range(200):
            told = draws.screw_with_axis()
            same_number(self, pitch_of(told), own_pitch(told))
            self.assertEqual(pitch_of(screw=told), pitch_of(told))
            point, direction, pitch = draws.triple(), draws.direction(), draws.fraction()
            self.assertEqual(pitch_of(screw_about(point, direction, pitch)), pitch)
            self.assertIs(pitch_of((NOUGHT, draws.triple())), None)
        self.assertIs(pitch_of(NOUGHT_SCREW), None)
        self.assertEqual(pitch_of((X, NOUGHT)), (0, 1))
        self.assertEqual(pitch_of((((2, 1), (0, 1), (0, 1)), ((3, 1), (0, 1), (0, 1)))), (3, 2))

    def test_axis_point(self):
        draws = Draws(22)
        for _ in range(200):
            told = draws.screw_with_axis()
            same_vector(self, axis_point(told), own_foot(told))
            self.assertEqual(axis_point(screw=told), axis_point(told))
            self.assertEqual(inner(vector(axis_point(told)), vector(told[0])), 0)
        self.assertEqual(axis_point(line_at(((5, 1), (2, 1), (0, 1)), X)), ((0, 1), (2, 1), (0, 1)))

    def test_the_moment_is_the_pitch_times_line_on_the_axis_alone(self):
        draws = Draws(23)
        for _ in range(200):
            told = draws.screw_with_axis()
            line = vector(told[0])
            at_axis = times(number(pitch_of(told)), line)
            foot = vector(axis_point(told))
            for factor in (0, 1, -2, draws.number()):
                on_axis = triple(plus(foot, times(factor, line)))
                self.assertEqual(own_moment(told, on_axis), at_axis)
                aside = vector(draws.triple())
                off = any(outer(aside, line))
                self.assertEqual(own_moment(told, triple(plus(vector(on_axis), aside))) != at_axis, off)

    def test_each_screw_comes_from_its_axis_and_its_pitch(self):
        draws = Draws(24)
        for _ in range(200):
            told = draws.screw_with_axis()
            foot = vector(axis_point(told))
            on_axis = triple(plus(foot, times(draws.number(), vector(told[0]))))
            self.assertEqual(screw_about(on_axis, told[0], pitch_of(told)), told)
            factor = draws.other_than_nought()
            multiple = screw_times(told, pair(factor))
            self.assertEqual((pitch_of(multiple), axis_point(multiple)), (pitch_of(told), axis_point(told)))


class TwoAxes(unittest.TestCase):
    def drawn(self, draws):
        while True:
            first, second = draws.screw_with_axis(), draws.screw_with_axis()
            if not are_along(first, second):
                return first, second

    def on_axis(self, told, point):
        return not any(outer(minus(point, own_foot(told)), vector(told[0])))

    def test_nearest_points(self):
        draws = Draws(25)
        for _ in range(200):
            first, second = self.drawn(draws)
            points = nearest_points(first, second)
            self.assertIs(type(points), tuple)
            self.assertEqual(len(points), 2)
            for point in points:
                assert_triple(self, point)
            here, there = vector(points[0]), vector(points[1])
            self.assertTrue(self.on_axis(first, here))
            self.assertTrue(self.on_axis(second, there))
            between = minus(there, here)
            self.assertEqual(inner(between, vector(first[0])), 0)
            self.assertEqual(inner(between, vector(second[0])), 0)
            self.assertEqual(nearest_points(other=first, screw=second), (points[1], points[0]))
            same_number(self, apart_square(first, second), inner(between, between))
            self.assertEqual(apart_square(other=first, screw=second), apart_square(first, second))

    def test_no_points_of_the_axes_are_nearer(self):
        draws = Draws(26)
        for _ in range(100):
            first, second = self.drawn(draws)
            least = number(apart_square(first, second))
            here, there = map(vector, nearest_points(first, second))
            a, b = draws.number(), draws.number()
            between = minus(plus(there, times(b, vector(second[0]))), plus(here, times(a, vector(first[0]))))
            self.assertEqual(inner(between, between) > least, a != 0 or b != 0)

    def test_told_axes(self):
        up = line_at(X, Z)
        self.assertEqual(nearest_points((X, NOUGHT), up), (X, X))
        self.assertEqual(nearest_points(up, line_at(Y, X)), (X, triple((1, 1, 0))))
        self.assertEqual(apart_square(up, line_at(Y, X)), (1, 1))
        self.assertEqual(apart_square(up, line_at(NOUGHT, X)), (0, 1))
        far = screw_about(triple((0, 0, 3)), triple((1, 1, 0)), (7, 2))
        self.assertEqual(nearest_points((X, NOUGHT), far), (NOUGHT, triple((0, 0, 3))))
        self.assertEqual(apart_square((X, NOUGHT), far), (9, 1))

    def test_along_one_direction(self):
        draws = Draws(27)
        for _ in range(200):
            first = draws.screw_with_axis()
            d = vector(first[0])
            aside, factor = vector(draws.triple()), draws.other_than_nought()
            second = screw_about(triple(plus(own_foot(first), aside)), triple(times(factor, d)), draws.fraction())
            across = outer(aside, d)
            expected = inner(across, across) / inner(d, d)
            same_number(self, apart_square(first, second), expected)
            self.assertEqual(apart_square(second, first), apart_square(first, second))
            refused(self, Along, lambda: nearest_points(first, second), {})
        self.assertEqual(apart_square(line_at(Y, triple((3, 0, 0))), line_at(Z, triple((-2, 0, 0)))), (2, 1))
        self.assertEqual(apart_square(line_at(Y, X), line_at(Y, X)), (0, 1))

    def test_power_and_meeting(self):
        draws = Draws(28)
        met = 0
        for at in range(300):
            first, second = draws.line(), draws.line()
            if at % 3 == 0:
                point = triple(plus(own_foot(first), times(draws.number(), vector(first[0]))))
                second = line_at(point, second[0])
            if at % 7 == 0:
                second = line_at(draws.triple(), first[0])
            nothing = own_power(first, second) == 0
            met += nothing
            along = are_along(first, second)
            self.assertEqual(power(first, second) == (0, 1), along or apart_square(first, second) == (0, 1))
        self.assertGreater(met, 100)

    def test_the_square_of_power_and_distance(self):
        draws = Draws(29)
        for at in range(300):
            first, second = draws.screw_with_axis(), draws.screw_with_axis()
            if at % 4 == 0:
                second = (triple(times(draws.other_than_nought(), vector(first[0]))), second[1])
            a, b = vector(first[0]), vector(second[0])
            both = number(pitch_of(first)) + number(pitch_of(second))
            left = (number(power(first, second)) - both * inner(a, b)) ** 2
            normal = outer(a, b)
            self.assertEqual(left, number(apart_square(first, second)) * inner(normal, normal))


class Refusals(unittest.TestCase):
    def test_makers(self):
        points = given(WRONG_TRIPLES, InvalidTriple)
        directions = given(WRONG_DIRECTIONS, InvalidDirection)
        check_refusals(self, line_at, {"point": NOUGHT, "direction": X}, {"point": points, "direction": directions})
        check_refusals(self, slide_along, {"direction": X}, {"direction": directions})
        check_refusals(self, screw_about, {"point": NOUGHT, "direction": X, "pitch": (0, 1)}, {
            "point": points, "direction": directions, "pitch": given(WRONG_FRACTIONS, InvalidFraction),
        })

    def test_one_screw(self):
        screws = given(WRONG_SCREWS, InvalidScrew)
        for function in (pitch_of, axis_point):
            check_refusals(self, function, {"screw": (X, Y)}, {"screw": screws})
        check_refusals(self, screw_times, {"screw": NOUGHT_SCREW, "fraction": (0, 1)}, {
            "screw": screws, "fraction": given(WRONG_FRACTIONS, InvalidFraction),
        })
        check_refusals(self, moment_at, {"screw": NOUGHT_SCREW, "point": NOUGHT}, {
            "screw": screws, "point": given(WRONG_TRIPLES, InvalidTriple),
        })

    def test_two_screws(self):
        screws = given(WRONG_SCREWS, InvalidScrew)
        for function in (screw_sum, power, nearest_points, apart_square):
            check_refusals(self, function, {"screw": (X, Y), "other": (Y, X)}, {"screw": screws, "other": screws})

    def test_no_axis_comes_behind_the_arguments(self):
        slide = (NOUGHT, X)
        for function in (nearest_points, apart_square):
            for value in WRONG_SCREWS:
                refused(self, InvalidScrew, lambda: function(slide, value), {"given": value})
                refused(self, InvalidScrew, lambda: function(other=value, screw=NOUGHT_SCREW), {"given": value})

    def test_no_axis(self):
        for slide in ((NOUGHT, X), NOUGHT_SCREW, (NOUGHT, ((0, 1), (0, 1), (-1, 9)))):
            refused(self, NoAxis, lambda: axis_point(slide), {})
            refused(self, NoAxis, lambda: axis_point(screw=slide), {})
            for function in (nearest_points, apart_square):
                for other in ((X, Y), (NOUGHT, Y), slide):
                    refused(self, NoAxis, lambda: function(slide, other), {})
                    refused(self, NoAxis, lambda: function(other, slide), {})
                    refused(self, NoAxis, lambda: function(other=slide, screw=other), {})

    def test_along(self):
        for factor in (1, -1, Fraction(5, 3)):
            other = (triple((factor, 0, 0)), Z)
            refused(self, Along, lambda: nearest_points((X, Y), other), {})
            refused(self, Along, lambda: nearest_points(other=(X, Y), screw=other), {})

    def test_anything(self):
        for value in ANYTHING:
            for function in (screw_sum, power, nearest_points, apart_square, moment_at, screw_times):
                refused(self, InvalidScrew, lambda: function(value, value), {"given": value})

    def test_what_is_returned_may_be_passed(self):
        told = screw([Fraction(10 ** 380 + at, 10 ** 390 + 7 * at + 1) for at in range(6)])
        for _ in range(3):
            told = screw_sum(screw_times(told, pitch_of(told)), line_at(axis_point(told), told[0]))
        assert_screw(self, told)
        self.assertEqual(number(pitch_of(told)), own_pitch(told))


if __name__ == "__main__":
    unittest.main()
