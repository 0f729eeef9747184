"""The pitches of the screws of systems ([19] to [21])."""
import unittest
from fractions import Fraction
from math import isqrt

from sevenpins.errors import InvalidFraction, InvalidNumber, InvalidSystem
from sevenpins.pitches import (
    crossing_line, greatest_near, has_pitch, is_open, least_near, pitch_count, pitch_pair, principal_counts,
    screw_above, screw_below, signs_at,
)
from tests.helpers import (
    ANYTHING, NOUGHT, WRONG_FRACTIONS, WRONG_SYSTEMS, X, Y, Z, Draws, assert_screw, assert_whole, check_refusals, given,
    inner, outer, own_is_in, own_power, own_rank, own_system, pair, plain_turning, plus, screw, six, times, vector,
    weighed,
)
from tests.test_turnings import own_turned

ALL = own_system([(X, NOUGHT), (Y, NOUGHT), (Z, NOUGHT), (NOUGHT, X), (NOUGHT, Y), (NOUGHT, Z)])


# The tests' own signs: all roots of the characteristic polynomial of a form are real, so by the rule of Descartes
# as many are above 0 as its coefficients change signs.

def own_matrix(system, pitch):
    rows = [six(part) for part in system]
    return [
        [(inner(a[:3], b[3:]) + inner(a[3:], b[:3])) / 2 - pitch * inner(a[:3], b[:3]) for b in rows] for a in rows
    ]


def characteristic(matrix):
    """The coefficients from the greatest power on (Faddeev, Leverrier)."""
    size = len(matrix)
    found, held = [Fraction(1)], [[Fraction(0)] * size for _ in range(size)]
    for step in range(1, size + 1):
        for at in range(size):
            held[at][at] += found[-1]
        held = [[sum(matrix[a][c] * held[c][b] for c in range(size)) for b in range(size)] for a in range(size)]
        found.append(-sum(held[at][at] for at in range(size)) / step)
    return found


def own_signs(system, pitch):
    if not system:
        return (0, 0, 0)
    told = characteristic(own_matrix(system, pitch))
    kept = [value for value in told if value != 0]
    above = sum(1 for a, b in zip(kept, kept[1:]) if a * b < 0)
    at = 0
    while told[-1 - at] == 0:
        at += 1
    return (above, at, len(system) - above - at)


def own_slides(system):
    return len(system) - own_rank([six(part)[:3] for part in system])


def own_open(system):
    slides = [six(part)[3:] for part in system if not any(six(part)[:3])]
    return any(inner(slide, six(part)[:3]) != 0 for slide in slides for part in system)


def own_count(system, pitch):
    above, at, below = own_signs(system, pitch)
    slides = own_slides(system)
    if above and below:
        return "endless" if len(system) > 2 else ("one" if slides else "two")
    if at == slides:
        return "none"
    return "one" if at == 1 else "endless"


def own_form(told, pitch):
    line, moment = six(told)[:3], six(told)[3:]
    return inner(line, moment) - pitch * inner(line, line)


def own_pitch(told):
    line, moment = six(told)[:3], six(told)[3:]
    return inner(line, moment) / inner(line, line)


# Systems with known pitches.

def about(point, direction, pitch):
    return screw(list(direction) + plus(outer(list(point), list(direction)), times(Fraction(pitch), list(direction))))


def slide(direction):
    return screw([0, 0, 0] + list(direction))


def led(turning, shift, told):
    line = own_turned(turning, six(told)[:3])
    return screw(line + plus(own_turned(turning, six(told)[3:]), outer(shift, line)))


def principal_system(draws, pitches, slides):
    """A system with these principal pitches, and so many slides at right angles to its axes, placed anywhere."""
    axes = [[1, 0, 0], [0, 1, 0], [0, 0, 1]]
    told = [about((0, 0, 0), axis, pitch) for axis, pitch in zip(axes, pitches)]
    told += [slide(axis) for axis in axes[3 - slides:]]
    turning, shift = draws.turning(), vector(draws.triple())
    told = [led(turning, shift, part) for part in told]
    if told:
        told.append(screw(weighed(told, [draws.small() for _ in told])))
    return own_system(told)


def told_systems():
    o, x, y, z = (0, 0, 0), (1, 0, 0), (0, 1, 0), (0, 0, 1)
    told = [
        (), (about(o, x, 0),), (about(x, y, 3),), (about(o, z, Fraction(-1, 2)),), (slide(x),), (slide(x), slide(y)),
        (slide(x), slide(y), slide(z)), (about(o, x, 0), about(z, y, 0)), (about(o, x, 0), about(o, y, 0)),
        (about(o, x, 1), about(o, y, 1)), (about(o, x, 1), about(o, y, 2)), (about(o, z, 0), slide(y)),
        (about(o, z, 0), slide(z)), (about(o, z, 2), slide((1, 1, 0))), (about(o, z, 0), about(x, z, 0)),
        (about(o, z, 0), about(x, z, 0), about(y, z, 0)), (about(o, x, 0), about(o, y, 0), about(o, z, 0)),
        (about(o, x, 1), about(o, y, 1), about(o, z, 1)), (about(o, x, -1), about(o, y, 0), about(o, z, 2)),
        (about(o, x, 5), about(o, y, 5), about(o, z, 2)), (about(o, x, 1), about(o, y, 1), slide(z)),
        (about(o, x, 1), about(o, y, 3), slide(z)), (about(o, x, 4), slide(y), slide(z)),
        (about(o, x, 1), slide(x), slide(z)), (about(o, x, 0), about(o, y, 0), slide(x), slide(z)),
        (about(o, x, 0), about(x, y, 0), about(y, (1, 1, 1), 0), about(z, (1, -1, 0), 0)), ALL,
        (about(o, x, 0), about(o, y, 0), about(o, z, 0), slide(x)), (about(o, x, 0), about(o, x, 1)),
        (about(o, (1, 1, 0), 0), about(z, (1, 2, 0), 1)), (about(z, x, 2), about(z, (1, 1, 0), 2)),
    ]
    return [own_system(screws) for screws in told]


class Case(unittest.TestCase):
    def drawn(self, seed, count):
        draws = Draws(seed)
        told = told_systems()
        for at in range(count):
            if at < len(told):
                yield draws, told[at]
            else:
                yield draws, draws.system()

    def pitches(self, draws, system):
        """Pitches that say something about the system, and some that say nothing."""
        found = [Fraction(0), draws.small(), draws.number()]
        for _ in range(2):
            told = screw(weighed(system, [draws.small() for _ in system]))
            if any(six(told)[:3]):
                found.append(own_pitch(told))
        return found


class Signs(Case):
    def test_signs_at(self):
        for draws, system in self.drawn(71, 150):
            for pitch in self.pitches(draws, system):
                found = signs_at(system, pair(pitch))
                self.assertIs(type(found), tuple)
                for part in found:
                    assert_whole(self, part)
                self.assertEqual(found, own_signs(system, pitch))
                self.assertEqual(signs_at(fraction=pair(pitch), system=system), found)

    def test_is_open(self):
        seen = {True: 0, False: 0}
        for draws, system in self.drawn(72, 150):
            found = is_open(system)
            self.assertIs(found, own_open(system))
            self.assertIs(is_open(system=system), found)
            seen[found] += 1
        self.assertGreater(min(seen.values()), 20)

    def test_screws_below_and_above(self):
        for draws, system in self.drawn(73, 150):
            for pitch in self.pitches(draws, system):
                above, _, below = own_signs(system, pitch)
                found = screw_below(system, pair(pitch))
                self.assertEqual(found is None, below == 0)
                if found is not None:
                    assert_screw(self, found)
                    self.assertTrue(own_is_in(system, found))
                    self.assertLess(own_pitch(found), pitch)
                found = screw_above(system, pair(pitch))
                self.assertEqual(found is None, above == 0)
                if found is not None:
                    assert_screw(self, found)
                    self.assertTrue(own_is_in(system, found))
                    self.assertGreater(own_pitch(found), pitch)

    def test_by_name(self):
        told = own_system([about((0, 0, 0), (1, 0, 0), 1)])
        self.assertEqual(own_pitch(screw_below(fraction=(2, 1), system=told)), 1)
        self.assertIs(screw_above(fraction=(2, 1), system=told), None)
        self.assertEqual(own_pitch(screw_above(fraction=(1, 2), system=told)), 1)
        self.assertIs(screw_below(fraction=(1, 1), system=told), None)


class Having(Case):
    def test_the_pitches_of_its_screws(self):
        for draws, system in self.drawn(74, 200):
            held = []
            for _ in range(4):
                told = screw(weighed(system, [draws.small() for _ in system]))
                if any(six(told)[:3]):
                    held.append(own_pitch(told))
            for pitch in held:
                self.assertIs(has_pitch(system, pair(pitch)), True)
                self.assertNotEqual(pitch_count(system, pair(pitch)), "none")
            if held:
                # All between the least and the greatest one are pitches, too.
                between = min(held) + (max(held) - min(held)) * Fraction(draws.whole(0, 7), 7)
                self.assertIs(has_pitch(system, pair(between)), True)

    def test_has_pitch(self):
        seen = {True: 0, False: 0}
        for draws, system in self.drawn(75, 150):
            for pitch in self.pitches(draws, system):
                found = has_pitch(system, pair(pitch))
                self.assertIs(found, own_count(system, pitch) != "none")
                self.assertIs(has_pitch(fraction=pair(pitch), system=system), found)
                seen[found] += 1
        self.assertGreater(min(seen.values()), 50)

    def test_open_systems_have_each_pitch(self):
        for draws, system in self.drawn(76, 150):
            if own_open(system):
                for pitch in (0, Fraction(-10 ** 30, 7), Fraction(1, 10 ** 30), 12):
                    self.assertIs(has_pitch(system, pair(pitch)), True)
                    self.assertIsNot(pitch_pair(system, pair(pitch)), None)
                    self.assertIsNot(screw_below(system, pair(pitch)), None)
                    self.assertIsNot(screw_above(system, pair(pitch)), None)

    def check_pair(self, system, pitch):
        found = pitch_pair(system, pair(pitch))
        if found is None:
            self.assertEqual(own_count(system, pitch), "none")
            return
        self.assertIs(type(found), tuple)
        self.assertEqual(len(found), 2)
        for told in found:
            assert_screw(self, told)
            self.assertTrue(own_is_in(system, told))
        first, second = found
        self.assertGreaterEqual(own_form(first, pitch), 0)
        self.assertLessEqual(own_form(second, pitch), 0)
        self.assertGreater(inner(six(first)[:3], six(second)[:3]), 0)

    def test_pitch_pair(self):
        for draws, system in self.drawn(77, 200):
            for pitch in self.pitches(draws, system):
                self.check_pair(system, pitch)
                self.assertEqual(pitch_pair(system, pair(pitch)) is None, own_count(system, pitch) == "none")
        told = own_system([about((0, 0, 0), (1, 0, 0), 1)])
        self.assertIsNot(pitch_pair(fraction=(1, 1), system=told), None)
        self.assertIs(pitch_pair(fraction=(2, 1), system=told), None)

    def test_pairs_at_right_angles_and_opposite(self):
        # LINEs of the screws with the two signs may stand at right angles or lead apart, at pitches near and far.
        o, x, y = (0, 0, 0), (1, 0, 0), (0, 1, 0)
        for high in (Fraction(1, 10 ** 20), 1, 10 ** 20):
            for low in (Fraction(-1, 10 ** 20), -1, -10 ** 20):
                for told in ([about(o, x, high), about(o, y, low)], [about(o, x, low), about(o, y, high)],
                             [about(o, x, high), about(o, (-5, 1, 0), low)], [about(o, x, high), slide(x)]):
                    self.check_pair(own_system(told), 0)
                    self.assertIs(has_pitch(own_system(told), (0, 1)), True)


class Counts(Case):
    def test_pitch_count(self):
        seen = {"none": 0, "one": 0, "two": 0, "endless": 0}
        for draws, system in self.drawn(78, 200):
            for pitch in self.pitches(draws, system):
                found = pitch_count(system, pair(pitch))
                self.assertEqual(found, own_count(system, pitch))
                self.assertEqual(pitch_count(fraction=pair(pitch), system=system), found)
                seen[found] += 1
        self.assertGreater(min(seen.values()), 10)

    def test_each_case(self):
        o, x, y, z = (0, 0, 0), (1, 0, 0), (0, 1, 0), (0, 0, 1)
        cases = [
            # Of order 0 and 1.
            ((), 0, "none"), ((slide(x),), 0, "none"), ((about(x, y, 3),), 3, "one"), ((about(x, y, 3),), 2, "none"),
            ((about(x, y, 0),), 0, "one"),
            # Of order 2 without slides.
            ((about(o, x, 1), about(o, y, 2)), 0, "none"), ((about(o, x, 1), about(o, y, 2)), 3, "none"),
            ((about(o, x, 1), about(o, y, 2)), 1, "one"), ((about(o, x, 1), about(o, y, 2)), 2, "one"),
            ((about(o, x, 1), about(o, y, 2)), Fraction(3, 2), "two"),
            ((about(o, x, 1), about(o, y, 1)), 1, "endless"), ((about(o, x, 1), about(o, y, 1)), 0, "none"),
            ((about(o, x, 0), about(z, y, 0)), 0, "two"), ((about(o, x, 0), about(o, y, 0)), 0, "endless"),
            # Of order 2 with slides.
            ((about(o, z, 0), slide(z)), 0, "one"), ((about(o, z, 0), slide(z)), 5, "one"),
            ((about(o, z, 0), slide((1, 0, 1))), -7, "one"), ((about(o, z, 0), slide(x)), 0, "endless"),
            ((about(o, z, 0), slide(x)), 1, "none"), ((about(o, z, 4), slide(x)), 4, "endless"),
            ((slide(x), slide(y)), 0, "none"), ((about(o, z, 0), about(x, z, 0)), 0, "endless"),
            # Of order 3 and more.
            ((about(o, x, 1), about(o, y, 2), about(o, z, 3)), 2, "endless"),
            ((about(o, x, 1), about(o, y, 2), about(o, z, 3)), 1, "one"),
            ((about(o, x, 1), about(o, y, 2), about(o, z, 3)), 3, "one"),
            ((about(o, x, 1), about(o, y, 2), about(o, z, 3)), 4, "none"),
            ((about(o, x, 1), about(o, y, 1), about(o, z, 3)), 1, "endless"),
            ((about(o, x, 0), about(o, y, 0), about(o, z, 0)), 0, "endless"),
            ((about(o, x, 0), about(o, y, 0), about(o, z, 0)), 1, "none"),
            ((slide(x), slide(y), slide(z)), 0, "none"), ((about(o, z, 1), slide(x), slide(y)), 1, "endless"),
            ((about(o, z, 1), slide(x), slide(y)), 0, "none"), ((about(o, z, 1), slide(x), slide(z)), 0, "endless"),
            ((about(o, x, 1), about(o, y, 2), slide(z)), 1, "endless"),
            ((about(o, x, 1), about(o, y, 2), slide(z)), 0, "none"),
            ((about(o, x, 1), about(o, y, 2), slide(z)), Fraction(3, 2), "endless"), (ALL, 10 ** 9, "endless"),
        ]
        for screws, pitch, expected in cases:
            with self.subTest(screws=screws, pitch=pitch):
                system = own_system(screws)
                self.assertEqual(pitch_count(system, pair(pitch)), expected)
                self.assertIs(has_pitch(system, pair(pitch)), expected != "none")
                self.assertEqual(pitch_pair(system, pair(pitch)) is None, expected == "none")

    def test_two_are_two(self):
        # The pitch of x a + y b is (x x - 2 y y) / (x x + y y), so it is 0 for no fraction x / y.
        o, x, y = (0, 0, 0), (1, 0, 0), (0, 1, 0)
        system = own_system([about(o, x, 1), about(o, y, -2)])
        self.assertEqual(pitch_count(system, (0, 1)), "two")
        self.assertIs(has_pitch(system, (0, 1)), True)
        self.assertEqual(pitch_count(system, (1, 1)), "one")
        self.assertEqual(pitch_count(system, (10 ** 20 + 1, 10 ** 20)), "none")


class Principal(Case):
    PITCHES = [
        (), (0,), (-2,), (Fraction(7, 3),), (1, 2), (0, 0), (-1, 1), (Fraction(1, 2), Fraction(-1, 3)), (1, 2, 3),
        (5, 5, -1), (-4, -4, -4), (0, Fraction(-1, 7), Fraction(10 ** 22, 3)),
        (10 ** 30, -10 ** 30, Fraction(1, 10 ** 30)), (0, 0, 0), (3, 0, 3),
    ]

    def known(self, seed):
        draws = Draws(seed)
        for pitches in self.PITCHES:
            for slides in range(4 - len(pitches)):
                for _ in range(2):
                    yield draws, [Fraction(pitch) for pitch in pitches], principal_system(draws, pitches, slides)

    def test_principal_counts(self):
        for draws, pitches, system in self.known(81):
            near = [pitch + step for pitch in pitches for step in (0, Fraction(1, 10 ** 40), Fraction(-1, 10 ** 40))]
            for told in near + [Fraction(0), draws.number()]:
                expected = (
                    len([pitch for pitch in pitches if pitch > told]),
                    len([pitch for pitch in pitches if pitch == told]),
                    len([pitch for pitch in pitches if pitch < told]),
                )
                found = principal_counts(system, pair(told))
                self.assertIs(type(found), tuple)
                self.assertEqual(found, expected)
                self.assertEqual(principal_counts(fraction=pair(told), system=system), found)

    def test_near_known_ones(self):
        for draws, pitches, system in self.known(82):
            for many in (1, 2, 10, 999, 10 ** 12, draws.whole(1, 10 ** 12)):
                if not pitches:
                    self.assertIs(least_near(system, many), None)
                    self.assertIs(greatest_near(system, many), None)
                    continue
                low, high = min(pitches) * many, max(pitches) * many
                found = least_near(system, many), greatest_near(system, many)
                self.assertEqual(found, (low.numerator // low.denominator, high.numerator // high.denominator))
                for part in found:
                    assert_whole(self, part)
                self.assertEqual(least_near(many=many, system=system), found[0])
                self.assertEqual(greatest_near(many=many, system=system), found[1])

    def test_drawn_systems(self):
        for draws, system in self.drawn(83, 150):
            pitches = self.pitches(draws, system)
            if own_open(system):
                for pitch in pitches:
                    self.assertIs(principal_counts(system, pair(pitch)), None)
                self.assertEqual(least_near(system, 7), "all")
                self.assertEqual(greatest_near(system, 10 ** 12), "all")
                continue
            slides = own_slides(system)
            for pitch in pitches:
                above, at, below = own_signs(system, pitch)
                self.assertEqual(principal_counts(system, pair(pitch)), (above, at - slides, below))
            if len(system) == slides:
                self.assertIs(least_near(system, 1), None)
                self.assertIs(greatest_near(system, 1), None)
                continue
            for many in (1, 10, 10 ** 12):
                found = least_near(system, many)
                self.assertEqual(own_signs(system, Fraction(found, many))[2], 0)
                self.assertGreater(own_signs(system, Fraction(found + 1, many))[2], 0)
                found = greatest_near(system, many)
                above, at, _ = own_signs(system, Fraction(found, many))
                self.assertGreater(above + at - slides, 0)
                above, at, _ = own_signs(system, Fraction(found + 1, many))
                self.assertEqual(above + at - slides, 0)

    def test_pitches_that_are_no_fractions(self):
        # Of order 2 the principal pitches p solve A p p + B p + C = 0; (n + root of d) / (2 A) is cut by isqrt.
        draws = Draws(84)
        roots = 0
        for _ in range(100):
            here, there = ([draws.whole(-3, 3) for _ in range(3)] for _ in range(2))
            first = about(here, (1, draws.whole(-2, 2), 0), draws.whole(-3, 3))
            second = about(there, (draws.whole(-2, 2), 1, draws.whole(1, 2)), draws.whole(-3, 3))
            system = own_system([first, second])
            (a, b), (_, d) = [[2 * value for value in row] for row in own_matrix([first, second], 0)]
            lines = six(first)[:3], six(second)[:3]
            g, h, k = (2 * inner(lines[0], lines[0]), 2 * inner(lines[0], lines[1]), 2 * inner(lines[1], lines[1]))
            lead, middle, last = g * k - h * h, 2 * b * h - a * k - d * g, a * d - b * b
            for many in (1, 10, 10 ** 12):
                square = int(middle * middle - 4 * lead * last) * many * many
                root = isqrt(square)
                roots += root * root != square
                up = root + (root * root != square)
                self.assertEqual(greatest_near(system, many), (int(-middle) * many + root) // int(2 * lead))
                self.assertEqual(least_near(system, many), (int(-middle) * many - up) // int(2 * lead))
        self.assertGreater(roots, 100)

    def test_told_ones(self):
        o, x, y, z = (0, 0, 0), (1, 0, 0), (0, 1, 0), (0, 0, 1)
        # Lines at right angles at a distance of 1: from -1 / 2 to 1 / 2.
        ring = own_system([about(o, x, 0), about(z, y, 0)])
        self.assertEqual([least_near(ring, 10), greatest_near(ring, 10)], [-5, 5])
        self.assertEqual([least_near(ring, 1), greatest_near(ring, 1)], [-1, 0])
        self.assertEqual([least_near(ring, 3), greatest_near(ring, 3)], [-2, 1])
        # Lines at half a right angle: the pitches of x a + y b are - x y / ((x + y) (x + y) + y y), so the principal
        # ones are those with p p - p - 1 / 4 = 0, (1 - root of 2) / 2 and (1 + root of 2) / 2.
        bent = own_system([about(o, x, 0), about(z, (1, 1, 0), 0)])
        self.assertEqual([least_near(bent, 1), greatest_near(bent, 1)], [-1, 1])
        self.assertEqual([least_near(bent, 10 ** 12), greatest_near(bent, 10 ** 12)], [-207106781187, 1207106781186])
        for system in ((), own_system([slide(x)]), own_system([slide(x), slide(y), slide(z)])):
            self.assertIs(least_near(system, 1), None)
            self.assertIs(greatest_near(system, 5), None)
            self.assertEqual(principal_counts(system, (1, 2)), (0, 0, 0))
        self.assertEqual([least_near(ALL, 1), greatest_near(ALL, 1)], ["all", "all"])
        self.assertIs(principal_counts(ALL, (0, 1)), None)

    def test_pitches_lie_between(self):
        for draws, system in self.drawn(85, 120):
            if own_open(system) or len(system) == own_slides(system):
                continue
            low, high = least_near(system, 1), greatest_near(system, 1)
            for pitch in self.pitches(draws, system):
                if has_pitch(system, pair(pitch)):
                    self.assertGreaterEqual(pitch, low)
                    self.assertLess(pitch, high + 1)
            self.assertIs(has_pitch(system, (low - 1, 1)), False)
            self.assertIs(has_pitch(system, (high + 1, 1)), False)


class Crossing(Case):
    def check_line(self, system, found):
        assert_screw(self, found)
        values = six(found)
        self.assertEqual(inner(values[:3], values[3:]), 0)
        whole = [part[0] for part in found[0]]
        self.assertEqual([part[1] for part in found[0]], [1, 1, 1])
        self.assertEqual(plain_turning([0] + whole)[1:], tuple(whole))

    def meets_at_right_angles(self, found, told):
        self.assertEqual(inner(six(found)[:3], six(told)[:3]), 0)
        axis = screw(plus(six(told), [0, 0, 0] + times(-own_pitch(told), six(told)[:3])))
        self.assertEqual(own_power(found, axis), 0)

    def test_all_axes_meet_it(self):
        draws = Draws(86)
        many = 0
        for _ in range(200):
            system = own_system([draws.screw_with_axis(), draws.screw_with_axis()])
            if draws.whole(0, 1):
                system = own_system([draws.plain_screw(), draws.plain_screw()])
            found = crossing_line(system)
            if len(system) != 2 or own_slides(system):
                self.assertIs(found, None)
                continue
            many += 1
            self.check_line(system, found)
            self.assertEqual(crossing_line(system=system), found)
            for weights in ((1, 0), (0, 1), (1, 1), (draws.number(), draws.other_than_nought()), (-3, 7)):
                self.meets_at_right_angles(found, screw(weighed(system, weights)))
        self.assertGreater(many, 100)

    def test_told_axes(self):
        o, x, y, z = (0, 0, 0), (1, 0, 0), (0, 1, 0), (0, 0, 1)
        up = screw([0, 0, 1, 0, 0, 0])
        told = [
            ([about(o, x, 0), about(z, y, 0)], up), ([about(o, x, 3), about(o, y, -1)], up),
            ([about(o, x, 0), about((0, 0, 5), (1, 1, 0), 7)], up), ([about(z, x, 0), about(z, (-1, 2, 0), 0)], up),
            ([about(x, y, 0), about((1, 0, 4), x, 0)], screw([0, 0, 1] + outer([1, 0, 0], [0, 0, 1]))),
            ([about((2, 3, 0), z, 0), about((2, 3, 0), y, 1)], screw([1, 0, 0] + outer([2, 3, 0], [1, 0, 0]))),
            ([about((2, 3, 1), z, 0), about((5, 3, 1), y, 1)], screw([1, 0, 0] + outer([2, 3, 1], [1, 0, 0]))),
        ]
        for screws, expected in told:
            self.assertEqual(crossing_line(own_system(screws)), expected)

    def test_none(self):
        o, x, y, z = (0, 0, 0), (1, 0, 0), (0, 1, 0), (0, 0, 1)
        none = [
            (), (about(o, x, 0),), (slide(x),), (slide(x), slide(y)), (about(o, x, 0), slide(x)),
            (about(o, x, 0), slide(y)), (about(o, z, 0), about(x, z, 0)), (about(o, z, 0), about(o, z, 1)),
            (about(o, z, 0), about(x, (0, 0, -2), 3)),
            (about(o, x, 0), about(o, y, 0), about(o, z, 0)), (about(o, x, 0), about(z, y, 0), about(y, z, 1)), ALL,
            (about(o, x, 0), about(z, y, 0), slide(z)),
        ]
        for screws in none:
            self.assertIs(crossing_line(own_system(screws)), None)


class Refusals(unittest.TestCase):
    systems = given(WRONG_SYSTEMS, InvalidSystem)

    def test_one_system(self):
        for function in (is_open, crossing_line):
            check_refusals(self, function, {"system": ()}, {"system": self.systems})

    def test_fractions(self):
        fractions = given(WRONG_FRACTIONS, InvalidFraction)
        for function in (signs_at, screw_below, screw_above, has_pitch, pitch_pair, pitch_count, principal_counts):
            for good in ((), ALL, ((X, NOUGHT),), ((NOUGHT, X),)):
                check_refusals(self, function, {"system": good, "fraction": (0, 1)}, {
                    "system": self.systems, "fraction": fractions,
                })

    def test_many(self):
        wrong = [value for value in ANYTHING if type(value) is not int] + [
            0, -1, -10 ** 12, 10 ** 12 + 1, 10 ** 30, (1, 1), "1", [1], (5,), True, False, None,
        ]
        for function in (least_near, greatest_near):
            for good in ((), ALL, ((X, NOUGHT),)):
                check_refusals(self, function, {"system": good, "many": 1}, {
                    "system": self.systems, "many": given(wrong, InvalidNumber),
                })
            self.assertEqual(function(((X, NOUGHT),), 10 ** 12), 0)
            self.assertEqual(function(((X, NOUGHT),), 1), 0)

    def test_what_is_returned_may_be_passed(self):
        big = [
            screw([Fraction(10 ** 80 + 7 * row + at * at, 10 ** 80 + 3 ** (row + at)) for at in range(6)])
            for row in range(2)
        ]
        system = own_system(big)
        least = least_near(system, 10 ** 6)
        pitch = own_pitch(screw_below(system, pair(Fraction(least + 2, 10 ** 6))))
        self.assertEqual(signs_at(system, pair(pitch)), own_signs(system, pitch))
        self.assertNotEqual(pitch_count(system, pair(pitch)), "none")
        found = crossing_line(system)
        self.assertEqual(inner(vector(found[0]), vector(found[1])), 0)


if __name__ == "__main__":
    unittest.main()
