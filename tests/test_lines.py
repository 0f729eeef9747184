"""Lines, and how many cross told ones ([7], [18], [20])."""
import unittest
from fractions import Fraction

from sevenpins.errors import Along, InvalidScrew, InvalidScrews, InvalidTriple
from sevenpins.lines import do_cross, line_through, lines_across
from tests.helpers import (
    ANYTHING, NOUGHT, WRONG_LINES, WRONG_TRIPLES, X, Y, Z, Draws, assert_screw, check_refusals, given, indexed, inner,
    minus, outer, own_back, own_moment, own_power, own_rank, own_system, plain_turning, plus, refused, screw, six,
    times, triple, vector,
)
from tests.test_pitches import led, own_count

WORDS = ("none", "one", "two", "endless")


def line(point, direction):
    return screw(list(direction) + outer(list(point), list(direction)))


def ruling(at):
    """The line x = at of the surface z = x y; the lines y = c and x = c of it cross, those of one kind do not."""
    return line((at, 0, 0), (0, 1, at))


def meet_or_are_parallel(first, second):
    a, b = six(first), six(second)
    normal = outer(a[:3], b[:3])
    if not any(normal):
        return True
    foot_a = times(1 / inner(a[:3], a[:3]), outer(a[:3], a[3:]))
    foot_b = times(1 / inner(b[:3], b[:3]), outer(b[:3], b[3:]))
    return inner(minus(foot_b, foot_a), normal) == 0


class Through(unittest.TestCase):
    def test_line_through(self):
        draws = Draws(91)
        for _ in range(300):
            point, other = draws.triple(), draws.triple()
            if point == other:
                continue
            found = line_through(point, other)
            assert_screw(self, found)
            whole = [part[0] for part in found[0]]
            self.assertEqual([part[1] for part in found[0]], [1, 1, 1])
            self.assertEqual(plain_turning([0] + whole)[1:], tuple(whole))
            self.assertEqual(outer(vector(found[0]), minus(vector(other), vector(point))), [0, 0, 0])
            for on_it in (point, other, triple(plus(vector(point), times(draws.number(), whole)))):
                self.assertEqual(own_moment(found, on_it), [0, 0, 0])
            self.assertEqual(line_through(other, point), found)
            self.assertEqual(line_through(other=other, point=point), found)

    def test_told_lines(self):
        self.assertEqual(line_through(NOUGHT, X), (X, NOUGHT))
        self.assertEqual(line_through(X, NOUGHT), (X, NOUGHT))
        self.assertEqual(line_through(X, triple((1, -6, 0))), (Y, Z))
        there = triple((Fraction(1, 2), Fraction(-1, 3), 1))
        self.assertEqual(line_through(triple((0, 0, 1)), there), line((0, 0, 1), (3, -2, 0)))

    def test_along(self):
        draws = Draws(92)
        for _ in range(50):
            point = draws.triple()
            refused(self, Along, lambda: line_through(point, tuple(point)), {})
            refused(self, Along, lambda: line_through(other=point, point=triple(vector(point))), {})


class Crossing(unittest.TestCase):
    def test_do_cross(self):
        draws = Draws(93)
        seen = {True: 0, False: 0}
        for at in range(300):
            first, second = draws.line(), draws.line()
            if at % 4 == 0:
                second = line(vector(draws.triple()), times(draws.other_than_nought(), six(first)[:3]))
            if at % 4 == 1:
                a = six(first)
                foot = times(1 / inner(a[:3], a[:3]), outer(a[:3], a[3:]))
                second = line(plus(foot, times(draws.number(), a[:3])), six(second)[:3])
            found = do_cross(first, second)
            self.assertIs(found, meet_or_are_parallel(first, second))
            self.assertIs(found, own_power(first, second) == 0)
            self.assertIs(do_cross(other=first, line=second), found)
            seen[found] += 1
        self.assertGreater(min(seen.values()), 50)

    def test_told_lines(self):
        axle = line((0, 0, 0), (1, 0, 0))
        for other, expected in [
            (axle, True), (line((5, 0, 0), (-2, 0, 0)), True), (line((0, 7, 1), (3, 0, 0)), True),
            (line((9, 0, 0), (1, 2, 3)), True), (line((0, 0, 1), (0, 1, 0)), False),
            (line((0, 1, 0), (0, 0, 1)), False),
            (line((0, Fraction(1, 10 ** 30), 0), (0, 0, 1)), False),
        ]:
            self.assertIs(do_cross(axle, other), expected)
            self.assertIs(do_cross(other, axle), expected)


class Across(unittest.TestCase):
    def check(self, lines, expected):
        self.assertEqual(lines_across(tuple(lines)), expected)
        self.assertEqual(lines_across(lines=tuple(reversed(lines))), expected)
        more = [screw(times(-3, six(told))) for told in lines]
        self.assertEqual(lines_across(tuple(more)), expected)
        if len(lines) < 6:
            self.assertEqual(lines_across(tuple(lines) + (lines[0],)), expected)
            self.assertEqual(lines_across((more[-1],) + tuple(lines)), expected)

    def test_on_a_surface(self):
        three = [ruling(0), ruling(1), ruling(-1)]
        self.check(three, "endless")
        self.check(three + [ruling(5)], "endless")
        self.check(three + [ruling(5), ruling(Fraction(1, 3))], "endless")
        # The line z = c, x = y meets the surface where x x = c; through each such point one line crosses all three.
        for height, expected in ((4, "two"), (2, "two"), (0, "one"), (-1, "none"), (Fraction(1, 10 ** 30), "two")):
            self.check(three + [line((0, 0, height), (1, 1, 0))], expected)
        # Lines along z meet the surface once: a slide takes the place of the other line.
        self.check(three + [line((3, 2, 0), (0, 0, 1))], "one")
        # The lines y = 2 and y = - 2 both cross the fourth one; a fifth may meet both, one or none of them.
        four = three + [line((0, 0, 4), (1, 1, 0))]
        self.check(four + [line((7, 2, 14), (1, 0, 0))], "one")
        self.check(four + [line((7, 2, 14), (0, 5, 1))], "one")
        self.check(four + [line((7, 3, 14), (0, 5, 1))], "none")
        self.check(four + [line((0, 2, 0), (1, -4, -2))], "two")
        self.check(four + [line((7, 2, 14), (0, 5, 1)), line((1, 2, 2), (0, 0, 1))], "one")
        self.check(four + [line((7, 2, 14), (0, 5, 1)), line((1, -2, -2), (0, 0, 1))], "none")

    def test_fewer_lines_and_those_that_meet(self):
        o, x, y, z = (0, 0, 0), (1, 0, 0), (0, 1, 0), (0, 0, 1)
        self.check([line(o, x)], "endless")
        self.check([line(o, x), line(z, y)], "endless")
        self.check([line(o, x), line(o, y), line(o, z)], "endless")
        self.check([line(o, x), line(o, y), line(o, z), line(o, (1, 2, 3))], "endless")
        self.check([line(o, x), line(x, y), line(y, (1, 1, 0)), line(o, (3, 1, 0)), line(o, (1, 3, 0))], "endless")
        self.check([line(o, x), line(o, y), line((1, 1, 0), z), line((2, 1, 0), z)], "two")
        self.check([line(o, z), line(x, z), line(y, z), line((1, 1, 0), z)], "endless")

    def test_six_lines_without_a_common_one(self):
        o, x, y, z = (0, 0, 0), (1, 0, 0), (0, 1, 0), (0, 0, 1)
        self.check([line(o, x), line(o, y), line(o, z), line(x, y), line(y, z), line(z, x)], "none")

    def test_drawn(self):
        draws = Draws(94)
        seen = {word: 0 for word in WORDS}
        for _ in range(400):
            count = draws.whole(1, 6)
            lines = []
            for _ in range(count):
                direction = draws.pick(((1, 0, 0), (0, 1, 0), (0, 0, 1), (1, 1, 0), (1, -1, 2), (0, 2, 1)))
                lines.append(line([draws.whole(-2, 2) for _ in range(3)], direction))
            expected = own_count(own_back(own_system(lines)), 0)
            self.check(lines, expected)
            seen[expected] += 1
            turning, shift = draws.turning(), vector(draws.triple())
            self.assertEqual(lines_across(tuple(led(turning, shift, told) for told in lines)), expected)
            rank = own_rank([six(told) for told in lines])
            if rank == 6:
                self.assertEqual(expected, "none")
            if rank == 5:
                self.assertIn(expected, ("none", "one"))
            if rank < 4:
                self.assertEqual(expected, "endless")
        self.assertGreater(min(seen.values()), 10)

    def test_lines_of_one_that_crosses_all(self):
        # Lines drawn through points of one line are crossed by it at least.
        draws = Draws(95)
        for _ in range(100):
            across = draws.line()
            a = six(across)
            foot = times(1 / inner(a[:3], a[:3]), outer(a[:3], a[3:]))
            lines = [line(plus(foot, times(draws.number(), a[:3])), vector(draws.direction())) for _ in range(6)]
            for count in range(1, 7):
                self.assertIn(lines_across(tuple(lines[:count])), ("one", "two", "endless"))


class Refusals(unittest.TestCase):
    good = (X, NOUGHT)

    def test_line_through(self):
        points = given(WRONG_TRIPLES, InvalidTriple)
        check_refusals(self, line_through, {"point": X, "other": Y}, {"point": points, "other": points})
        for value in WRONG_TRIPLES:
            refused(self, InvalidTriple, lambda: line_through(value, value), {"given": value})

    def test_do_cross(self):
        lines = given(WRONG_LINES, InvalidScrew)
        check_refusals(self, do_cross, {"line": self.good, "other": self.good}, {"line": lines, "other": lines})

    def test_lines(self):
        good = self.good
        wrong = [((), None), ([], None), ([good], None), ({good: 1}, None), ({good}, None), (good, 0)]
        wrong.append(((good, good, [good]), 2))
        wrong += [(value, 0 if isinstance(value, tuple) else None) for value in ANYTHING]
        for place in range(6):
            for value in WRONG_LINES:
                wrong.append(((good,) * place + (value,), place))
                wrong.append(((good,) * place + (value,) + (good,) * 7, place))
                wrong.append(((good,) * place + (value, None), place))
        for seventh in [good, (Y, Z)] + WRONG_LINES:
            wrong.append(((good,) * 6 + (seventh,), 6))
            wrong.append(((good, (Y, Z)) * 3 + (seventh, None), 6))
        wrong.append(((good,) * 60, 6))
        check_refusals(self, lines_across, {"lines": (good,)}, {"lines": indexed(wrong, InvalidScrews)})
        self.assertEqual(lines_across((good,) * 6), "endless")


if __name__ == "__main__":
    unittest.main()
