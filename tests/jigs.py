"""What the tests of touches, holds and loads share: jigs, their rows, and the moves that they leave, by own sums."""
from fractions import Fraction
from itertools import combinations

from tests.helpers import (
    ANYTHING, NOUGHT, WRONG_DIRECTIONS, WRONG_TRIPLES, X, Y, Z, Draws, assert_fraction, assert_screw, inner,
    number, outer, own_kernel, own_line, own_rank, pair, plus, screw, six, times, triple, vector,
)

EACH_AXIS = ((1, 0, 0), (0, 1, 0), (0, 0, 1))
NOUGHT_SCREW = (NOUGHT, NOUGHT)


def own_rows(touch):
    """The rows of a touch, read off [28]."""
    word = touch[0]
    if word == "stop":
        return [(own_line(vector(touch[1]), vector(touch[2])), False)]
    if word == "pin":
        return [(own_line(vector(touch[1]), vector(touch[2])), True)]
    if word == "rest":
        return [(own_line(vector(point), vector(touch[2])), False) for point in touch[1]]
    if word == "groove":
        return [(own_line(vector(touch[1]), vector(direction)), False) for direction in touch[2:]]
    return [(own_line(vector(touch[1]), axis), True) for axis in EACH_AXIS]


def own_jig_rows(jig):
    return [row for touch in jig for row in own_rows(touch)]


def worth(push, move):
    """The power of one on the other, as numbers or screws."""
    a = six(push) if isinstance(push, tuple) else push
    b = six(move) if isinstance(move, tuple) else move
    return inner(a[:3], b[3:]) + inner(a[3:], b[:3])


def own_is_left(rows, move):
    return all(worth(push, move) == 0 if both else worth(push, move) >= 0 for push, both in rows)


def own_made(rows, weights):
    """The push that the weights make, as numbers."""
    total = [Fraction(0)] * 6
    for (push, _), weight in zip(rows, weights):
        total = plus(total, times(number(weight), six(push)))
    return total


class Left:
    """The moves that rows leave: all sums of both signs of `still` and of weights from 0 on of `rays`.

    Of the moves beside those with power 0 on all rows just those must be looked at at which as many rows have power 0
    as can be, but not all.
    """

    def __init__(self, rows):
        values = [six(push)[3:] + six(push)[:3] for push, _ in rows]
        rank = own_rank(values)
        self.rank = rank
        self.still = own_kernel(values, 6)
        self.sides = []
        for chosen in combinations(values, rank - 1) if rank else ():
            if own_rank(chosen) < rank - 1:
                continue
            for move in own_kernel(chosen, 6):
                if any(inner(value, move) for value in values):
                    # One of both signs of each is enough, beside those that are still.
                    self.sides += [move, times(-1, move)]
                    break
        self.rays = [move for move in self.sides if own_is_left(rows, move)]

    def word(self, rows):
        if any(worth(push, ray) > 0 for push, _ in rows for ray in self.rays):
            return "loose"
        return "held" if self.rank == 6 else "kept"

    def does_bear(self, push):
        if any(worth(push, move) != 0 for move in self.still):
            return False
        return all(worth(push, ray) <= 0 for ray in self.rays)

    def factors(self, push, other, low=Fraction(0)):
        """The ends of all f from low on (None for all f) with push + f other borne; the text none for no such f."""
        high = None
        limits = [(worth(push, move), worth(other, move)) for ray in self.still for move in (ray, times(-1, ray))]
        limits += [(worth(push, ray), worth(other, ray)) for ray in self.rays]
        for own, its in limits:
            if its == 0 and own > 0:
                return "none"
            if its > 0:
                high = -own / its if high is None else min(high, -own / its)
            if its < 0:
                low = -own / its if low is None else max(low, -own / its)
        if low is not None and high is not None and low > high:
            return "none"
        return (low, high)


def told_range(ends):
    """Ends as the package tells them."""
    if ends == "none":
        return None
    return tuple(None if end is None else pair(end) for end in ends)


# Jigs.

class JigDraws(Draws):
    """Jigs; most have small numbers, so that rows meet, are parallel, or hold."""

    def plain(self):
        return triple([self.whole(-2, 2) for _ in range(3)])

    def point(self):
        return self.plain() if self.random.randrange(6) else self.triple()

    def way(self):
        if self.random.randrange(8) == 0:
            return self.direction()
        return self.pick([triple(times(sign, axis)) for axis in EACH_AXIS for sign in (1, -1, 2)] + [
            triple((1, 1, 0)), triple((-1, 0, 1)), triple((0, 1, -1)), triple((-1, -1, -1)), triple((1, -1, 1)),
        ])

    def touch(self, words=("stop", "stop", "rest", "groove", "pin", "cup")):
        word = self.pick(words)
        if word in ("stop", "pin"):
            return (word, self.point(), self.way())
        if word == "rest":
            points = []
            for _ in range(self.whole(2, 6)):
                point = self.point()
                if point not in points:
                    points.append(point)
            return (word, tuple(points), self.way()) if len(points) > 1 else self.touch(words)
        if word == "groove":
            d, e = self.way(), self.way()
            return (word, self.point(), d, e) if any(outer(vector(d), vector(e))) else self.touch(words)
        return (word, self.point())

    def jig(self, most=12, rows=24, words=("stop", "stop", "rest", "groove", "pin", "cup")):
        wanted, found = self.whole(1, most), []
        for _ in range(wanted):
            touch = found[0] if found and self.random.randrange(9) == 0 else self.touch(words)
            if len(own_jig_rows(found + [touch])) <= rows:
                found.append(touch)
        return tuple(found) if found else (("stop", self.point(), self.way()),)

    def near_held(self, rows=9):
        """A cup or pins, and stops: these hold often."""
        first = [("cup", self.point())] if self.random.randrange(2) else [
            ("pin", self.point(), self.way()) for _ in range(self.whole(2, 4))]
        left = rows - len(own_jig_rows(first))
        return tuple(first + [("stop", self.plain(), self.way()) for _ in range(self.whole(max(1, left - 2), left))])

    def vice(self, pairs):
        """Pairs of stops against each other: alone these are kept or held."""
        found = []
        for _ in range(pairs):
            point, way = self.point(), self.way()
            shift = times(self.number(), vector(way))
            opposite = triple(times(-self.whole(1, 3), vector(way)))
            found += [("stop", point, way), ("stop", triple(plus(vector(point), shift)), opposite)]
        return tuple(found)

    def clamped(self):
        """A cup or pins, and pairs of stops, up to nine rows: mostly held."""
        kind = self.random.randrange(3)
        if kind == 0:
            return (("cup", self.point()),) + self.vice(3)
        pins = self.whole(3, 5) if kind == 1 else 6
        return tuple(("pin", self.point(), self.way()) for _ in range(pins)) + self.vice(1 if pins > 4 else 2)

    def small_jig(self, rows=8):
        """A jig with few rows, of some kind or other."""
        kind = self.random.randrange(5)
        if kind == 0:
            return self.jig(4, rows)
        if kind == 1:
            return self.vice(self.whole(1, 3))
        if kind == 2:
            return self.near_held(rows)
        found = self.clamped()
        return found if kind == 3 else found[:-1]

    def push(self, jig):
        """A push: any one, or one that the jig bears, or nearly."""
        kind = self.random.randrange(5)
        rows = own_jig_rows(jig)
        if kind == 0:
            return self.screw()
        weights = [self.whole(-2, 2) if both else self.whole(0, 2) for _, both in rows]
        if kind == 1:
            weights[0] -= 1
        return screw(times(-1, own_made(rows, [(weight, 1) for weight in weights])))


def told_otherwise(jig):
    """The jig with rests and grooves as stops, pins and cups as pairs of stops, where there is room; longer ways."""
    found = []
    for touch in jig:
        if touch[0] in ("rest", "groove"):
            points = touch[1] if touch[0] == "rest" else (touch[1], touch[1])
            ways = (touch[2],) * len(points) if touch[0] == "rest" else touch[2:]
            found += [("stop", point, triple(times(3, vector(way)))) for point, way in zip(points, ways)]
        elif touch[0] == "stop":
            found.append(("stop", touch[1], triple(times(Fraction(1, 2), vector(touch[2])))))
        else:
            ways = [vector(touch[2])] if touch[0] == "pin" else EACH_AXIS
            for way in ways:
                found += [("stop", touch[1], triple(times(sign, way))) for sign in (1, -2)]
    return tuple(found[::-1])


# Checks of papers.

def check_weights(case, rows, weights, made):
    """Whether weights of a jig make this push, told as numbers."""
    case.assertIs(type(weights), tuple)
    case.assertEqual(len(weights), len(rows))
    for (_, both), weight in zip(rows, weights):
        assert_fraction(case, weight)
        if not both:
            case.assertGreaterEqual(weight[0], 0)
    case.assertEqual(own_made(rows, weights), list(made))


def check_left(case, rows, move):
    assert_screw(case, move)
    case.assertTrue(own_is_left(rows, move))


# Wrong jigs.

GOOD_TOUCHES = [
    ("stop", Y, Z), ("rest", (X, Y), Z), ("groove", X, Y, Z), ("pin", X, Y), ("cup", Y),
    ("rest", (X, Y, Z, NOUGHT, triple((5, 5, 5)), triple((0, 0, -1))), Z),
]


def wrong_touches():
    found = list(ANYTHING)
    found += ["stop", ["stop", Y, Z], ("turn", Y, Z), ("Stop", Y, Z), ("stop ", Y, Z), (b"stop", Y, Z), ((), Y, Z)]
    found += [(["stop"], Y, Z), (None, Y, Z), (0, Y, Z), ({}, Y, Z), ("", Y), ("slide", Y), (("stop", Y, Z),), Z]
    found += [("cup",), ("cup", Y, Z), ("stop", Y), ("pin", Y, Z, X), ("groove", X, Y), ("groove", X, Y, Z, Z)]
    found += [("rest", X, Z), ("rest", (X,), Z), ("rest", (), Z), ("rest", [X, Y], Z), ("rest", (X, Y, X), Z)]
    found += [("rest", (X, X), Z), ("rest", (X, Y)), ("rest", (X, Y), Z, Z), ("rest", ((X, Y),), Z), ("rest", None, Z)]
    found += [("rest", tuple(triple((at, 0, 0)) for at in range(7)), Z), ("stop", (X, Y), Z), ("cup", (X, Y))]
    found += [("rest", tuple(triple((at, 0, 0)) for at in (0, 1, 2, 3, 4, 0)), Z), ("rest", {X: Y, Y: X}, Z)]
    found += [("groove", X, Y, Y), ("groove", X, Y, triple((0, -3, 0)))]
    found.append(("groove", X, triple((2, 4, 6)), triple((-1, -2, -3))))
    for word in ("stop", "pin"):
        found += [(word, value, Z) for value in WRONG_TRIPLES] + [(word, X, value) for value in WRONG_DIRECTIONS]
    found += [("cup", value) for value in WRONG_TRIPLES]
    for value in WRONG_TRIPLES:
        found += [("rest", (value, X), Z), ("rest", (X, Y, value), Z), ("groove", value, Y, Z)]
    for value in WRONG_DIRECTIONS:
        found += [("rest", (X, Y), value), ("groove", X, value, Z), ("groove", X, Z, value)]
    return found


WRONG_TOUCHES = wrong_touches()


def wrong_jigs():
    """Pairs of what is no jig and the index that is kept."""
    good = GOOD_TOUCHES[0]
    full = GOOD_TOUCHES[-1]
    found = [((), None), ([], None), ([good], None), ({good: 1}, None), (good, 0), ((good, [good]), 1), ("stop", None)]
    found += [(value, 0 if isinstance(value, tuple) and value else None) for value in ANYTHING]
    found += [((good,) * place + (value, None), place) for place in (0, 11) for value in WRONG_TOUCHES]
    found += [((good,) * 12 + (last,), 12) for last in (good, None, full)]
    found += [((full,) * 4 + (last,), 4) for last in (good, None, ("cup", X))]
    found += [((full,) * 3 + (("cup", X),) * 2 + (good, good), 5), ((("cup", X),) * 9, 8), ((full,) * 5, 4)]
    found += [((full, full, full, ("cup", X), ("cup", Y), GOOD_TOUCHES[2]), 5), ((good,) * 60, 12)]
    found += [((good, good, None) + (full,) * 5, 2), ((good,) + (full,) * 4, 4), ((full,) * 4 + (None,) * 9, 4)]
    return found


WRONG_JIGS = wrong_jigs()
