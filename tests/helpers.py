"""What the tests share: sums of their own, drawn values, wrong values, and a check of refusals."""
import random
from fractions import Fraction
from math import gcd


# Sums of the tests' own, over Python's Fraction.

def number(pair):
    return Fraction(pair[0], pair[1])


def pair(value):
    value = Fraction(value)
    return (value.numerator, value.denominator)


def vector(triple):
    return [number(part) for part in triple]


def triple(values):
    return tuple(pair(value) for value in values)


def six(screw):
    """The six numbers of a screw."""
    return vector(screw[0]) + vector(screw[1])


def screw(values):
    return (triple(values[:3]), triple(values[3:]))


def plus(first, second):
    return [a + b for a, b in zip(first, second)]


def minus(first, second):
    return [a - b for a, b in zip(first, second)]


def times(factor, values):
    return [factor * value for value in values]


def inner(first, second):
    return sum((a * b for a, b in zip(first, second)), Fraction(0))


def outer(first, second):
    a, b = first, second
    return [a[1] * b[2] - a[2] * b[1], a[2] * b[0] - a[0] * b[2], a[0] * b[1] - a[1] * b[0]]


def own_power(first, second):
    a, b = six(first), six(second)
    return inner(a[:3], b[3:]) + inner(a[3:], b[:3])


def own_moment(told, point):
    """The moment of a screw at a point, as numbers."""
    values = six(told)
    return plus(values[3:], outer(values[:3], vector(point)))


# What returned values must look like.

def assert_whole(case, value):
    case.assertIs(type(value), int)


def assert_fraction(case, value):
    case.assertIs(type(value), tuple)
    case.assertEqual(len(value), 2)
    for part in value:
        assert_whole(case, part)
    case.assertGreater(value[1], 0)
    case.assertEqual(gcd(*value), 1)


def assert_triple(case, value):
    case.assertIs(type(value), tuple)
    case.assertEqual(len(value), 3)
    for part in value:
        assert_fraction(case, part)


def assert_screw(case, value):
    case.assertIs(type(value), tuple)
    case.assertEqual(len(value), 2)
    for part in value:
        assert_triple(case, part)


def same_number(case, returned, expected):
    assert_fraction(case, returned)
    case.assertEqual(number(returned), expected)


def same_vector(case, returned, expected):
    assert_triple(case, returned)
    case.assertEqual(vector(returned), list(expected))


def same_screw(case, returned, expected):
    assert_screw(case, returned)
    case.assertEqual(six(returned), list(expected))


# Drawn values: the same ones in each run.

class Draws:
    """Numbers small and large, noughts, numbers below 0, fractions with small and with large denominators."""

    def __init__(self, seed):
        self.random = random.Random(seed)

    def whole(self, low, high):
        return self.random.randint(low, high)

    def pick(self, values):
        return values[self.random.randrange(len(values))]

    def number(self):
        kind = self.random.randrange(10)
        if kind < 3:
            return Fraction(0)
        if kind < 6:
            return Fraction(self.whole(-4, 4))
        if kind < 8:
            return Fraction(self.whole(-9, 9), self.whole(1, 9))
        if kind == 8:
            return Fraction(self.whole(-10 ** 24, 10 ** 24))
        return Fraction(self.whole(-10 ** 21, 10 ** 21), self.whole(1, 10 ** 23))

    def small(self):
        return Fraction(self.whole(-3, 3), self.whole(1, 2))

    def other_than_nought(self):
        while True:
            value = self.number()
            if value != 0:
                return value

    def numbers(self, count):
        # Few at a time are all drawn alike, so that noughts and large ones come side by side, too.
        if self.random.randrange(2):
            return [self.small() for _ in range(count)]
        return [self.number() for _ in range(count)]

    def fraction(self):
        return pair(self.number())

    def triple(self):
        return triple(self.numbers(3))

    def direction(self):
        while True:
            values = self.numbers(3)
            if any(values):
                return triple(values)

    def screw(self):
        return screw(self.numbers(6))

    def screw_with_axis(self):
        return (self.direction(), self.triple())

    def line(self):
        d, r = vector(self.direction()), self.numbers(3)
        return (triple(d), triple(outer(r, d)))

    def turning(self):
        while True:
            parts = [self.pick((0, 0, 1, -1, 2, 3, self.whole(-9, 9), self.whole(-10 ** 22, 10 ** 22)))
                     for _ in range(4)]
            if any(parts):
                return plain_turning(parts)

    def placing(self):
        return (self.turning(), self.triple())

    def plain_screw(self):
        """A screw with small numbers: a line, a slide or any other one."""
        kind = self.random.randrange(4)
        d = [self.whole(-1, 1) for _ in range(3)]
        r = [self.whole(-1, 1) for _ in range(3)]
        if kind == 0:
            return screw([0, 0, 0] + d)
        if kind == 3:
            return screw(d + plus(outer(r, d), times(self.whole(-1, 1), d)))
        return screw(d + outer(r, d))

    def screws(self, count):
        """So many screws; some of them are sums of others."""
        drawn = []
        plain = self.random.randrange(3)
        for _ in range(count):
            if len(drawn) > 1 and self.random.randrange(5) == 0:
                weights = [self.small() for _ in drawn]
                drawn.append(screw(weighed(drawn, weights)))
            else:
                drawn.append(self.plain_screw() if plain else self.screw())
        return tuple(drawn)

    def system(self, most=6):
        """The base of a system of an order from 0 to 6."""
        return own_system(self.screws(self.whole(0, most)))

    def screw_in(self, system):
        return screw(weighed(system, [self.number() for _ in system]))


def plain_turning(parts):
    common = gcd(*parts)
    first = [part for part in parts if part][0]
    if first < 0:
        common = -common
    return tuple(part // common for part in parts)


# Wrong values.

def nested(depth):
    value = ()
    for _ in range(depth - 1):
        value = (value,)
    return value


NO_TUPLES = [
    None, True, False, 0, 1, -3, 10 ** 30, "", "1/2", "abc", b"", b"\x00\x01", [], [0, 1], [(0, 1)] * 3,
    {}, {0: 1}, {"a": (0, 1)}, set(), {0, 1}, frozenset((1, 2)), object(), len, int, range(2), ValueError,
]
ANYTHING = NO_TUPLES + [(None,), ((),), nested(12), (0,), (None, None), ("a", "b", "c"), (0, 0, 0, 0), ((), (), ())]

WRONG_WHOLES = [value for value in ANYTHING if type(value) is not int] + [(1, 1), (), "1", b"1", (3,)]
WRONG_FRACTIONS = ANYTHING + [
    (), (1,), (1, 2, 3), [1, 2], "12", b"12", (2, 4), (0, 2), (1, 0), (0, 0), (1, -2), (-1, -2), (0, -1), (2, -1),
    (True, 2), (1, True), (False, 1), (None, 1), (1, None), ("1", 2), (1, "2"), ((1, 2), 1), (1, (2, 1)), ([1], 2),
    (6 * 10 ** 30, 4 * 10 ** 30), (10 ** 25, -1), {1: 2}, {1, 2}, (1, [2]), (b"1", 2), ((), ()), ((0, 1), (1, 1)),
]
_O, _I = (0, 1), (1, 1)
WRONG_TRIPLES = ANYTHING + [
    (), (_O,), (_O, _I), (_O, _I, _O, _I), [_O, _I, _O], (1, 2, 3), (0, 0, 1), _O, (_O, _O, 0), (_O, 1, _O),
    (True, _O, _O), ([0, 1], _O, _O), (_O, [0, 1], _O), (_O, _O, [0, 1]), ((2, 4), _O, _O), (_O, (2, 4), _O),
    (_O, _O, (2, 4)), ((1, 0), _I, _I), (_O, (1, -1), _I), (_O, _O, (0, 2)), (_O, _O, None), (None, _O, _O),
    (_O, "1", _O), (_O, _O, (1, True)), ((_O, _O, _O),), "012", b"012", {0: _O, 1: _O, 2: _O}, {_O, _I, (2, 1)},
    (_O, _O, (1, 2, 3)), (_O, (_O, _I), _I),
]
NOUGHT = (_O, _O, _O)
X, Y, Z = (_I, _O, _O), (_O, _I, _O), (_O, _O, _I)
WRONG_DIRECTIONS = WRONG_TRIPLES + [NOUGHT]
WRONG_SCREWS = ANYTHING + [
    (), (X,), (X, Y, Z), [X, Y], X, NOUGHT, _O, (X, 1), (1, X), (X, None), (None, X), (X, list(Y)), (list(X), Y),
    ([_O, _O, _O], X), (X, (_O, _O)), ((_O, _O), X), (X, (_O, _O, (2, 4))), (((0, 2), _O, _O), X), (X, (1, 2, 3)),
    ((1, 2, 3), X), X + Y, (X + Y,), ((X, Y),), ((X, Y), Y), {0: X, 1: Y}, {X, Y}, "xy", (X, "abc"),
    (X, (_O, _O, True)),
    (X, (_O, _O, _O, _O)), ((_I, _I, (1, -1)), NOUGHT), (NOUGHT, ((1, 0), _O, _O)),
]
WRONG_LINES = WRONG_SCREWS + [
    (NOUGHT, X), (NOUGHT, NOUGHT), (X, X), (Z, (_O, _O, (1, 10 ** 30))), (X, ((-2, 1), _I, _I)),
    ((_I, _I, _O), (_I, _O, _O)),
]


# Refusals.

def refused(case, error, call, kept):
    """Whether a call raises just this error, and whether the error keeps what it should."""
    try:
        call()
    except Exception as raised:
        case.assertIs(type(raised), error)
        for name, value in kept.items():
            held = getattr(raised, name)
            if name == "given":
                case.assertIs(held, value)
            else:
                case.assertEqual(held, value)
                case.assertIn(type(held), (int, type(None)))
        return
    case.fail(f"not refused by {error}: {kept}")


def check_refusals(case, function, good, wrong):
    """Each parameter's wrong values, by position and by name, and beside wrong values behind them.

    `good` has a right value for each parameter, in the order of the signature; `wrong` has for each parameter
    tuples of a wrong value, the error, and what the error keeps.
    """
    names = list(good)
    case.assertEqual(set(wrong), set(names))
    for place, name in enumerate(names):
        for value, error, kept in wrong[name]:
            told = dict(good)
            told[name] = value
            with case.subTest(function=function.__name__, parameter=name, value=value):
                refused(case, error, lambda: function(*told.values()), kept)
                refused(case, error, lambda: function(**told), kept)
                refused(case, error, lambda: function(**dict(reversed(list(told.items())))), kept)
                for behind in names[place + 1:]:
                    both = dict(told)
                    both[behind] = wrong[behind][0][0]
                    refused(case, error, lambda: function(*both.values()), kept)
                    refused(case, error, lambda: function(**dict(reversed(list(both.items())))), kept)
                everywhere = dict(told)
                for behind in names[place + 1:]:
                    everywhere[behind] = wrong[behind][-1][0]
                refused(case, error, lambda: function(*everywhere.values()), kept)


def given(values, error):
    return [(value, error, {"given": value}) for value in values]


def indexed(values, error):
    """`values` are pairs of a wrong value and the index that is kept."""
    return [(value, error, {"index": index}) for value, index in values]


# Rows of numbers, reduced by the tests' own sums.

def own_stairs(rows):
    """The rows in stairs: the first number of each that is not 0 is 1, and 0 in all others."""
    rows = [list(row) for row in rows]
    done = 0
    for place in range(len(rows[0]) if rows else 0):
        found = [at for at in range(done, len(rows)) if rows[at][place] != 0]
        if not found:
            continue
        rows[done], rows[found[0]] = rows[found[0]], rows[done]
        rows[done] = times(1 / Fraction(rows[done][place]), rows[done])
        for at in range(len(rows)):
            if at != done and rows[at][place] != 0:
                rows[at] = minus(rows[at], times(rows[at][place], rows[done]))
        done += 1
    return rows[:done]


def own_rank(rows):
    return len(own_stairs(rows))


def own_system(screws):
    return tuple(screw(row) for row in own_stairs([six(told) for told in screws]))


def own_is_in(system, told):
    rows = [six(part) for part in system]
    return own_rank(rows + [six(told)]) == own_rank(rows)


def own_back(system):
    """The system of all screws with power 0 on each screw of the system."""
    found = own_kernel([six(part)[3:] + six(part)[:3] for part in system], 6)
    return tuple(screw(row) for row in own_stairs(found))


def weighed(screws, weights):
    """The sum of the screws, each times its weight, as numbers."""
    total = [Fraction(0)] * 6
    for told, weight in zip(screws, weights):
        total = plus(total, times(Fraction(weight), six(told)))
    return total


def wrong_bases(system):
    """Tuples of screws near to a base that is not (), none of them a base."""
    first = system[0]
    yield system + (first,)
    yield system + (((_O,) * 3, (_O,) * 3),)
    yield (((_O,) * 3, (_O,) * 3),) + system
    yield (screw(times(2, six(first))),) + system[1:]
    yield (screw(times(-1, six(first))),) + system[1:]
    yield list(system)
    yield (list(first),) + system[1:]
    yield system[:-1] + (None,)
    yield system[:-1] + (system[-1] + (None,),)
    yield first[:1] + system
    if len(system) > 1:
        yield tuple(reversed(system))
        yield system[1:] + system[:1]
        yield (screw(plus(six(first), six(system[-1]))),) + system[1:]
        yield system[:-1] + (screw(plus(six(first), six(system[-1]))),)
        yield system[:-1] + (screw(times(Fraction(1, 3), six(system[-1]))),)


UP = (NOUGHT, Z)
WRONG_SYSTEMS = ANYTHING + [
    [], [(X, NOUGHT)], (X, NOUGHT), X, (X,), ((X, NOUGHT), None), (None, (X, NOUGHT)), ((X, NOUGHT), (X, NOUGHT)),
    ((NOUGHT, NOUGHT),), (((_I, (2, 4), _O), NOUGHT),), ((((2, 1), _O, _O), NOUGHT),), ((((-1, 1), _O, _O), NOUGHT),),
    ((Y, NOUGHT), (X, NOUGHT)), ((X, X), (Y, (_O, _I, _O)), (NOUGHT, X)), ((X, NOUGHT), ((_I, _I, _O), NOUGHT)),
    (((_I, _I, _O), NOUGHT), (Y, NOUGHT)), ([X, NOUGHT],), ((X, NOUGHT), [NOUGHT, X]), ((X, NOUGHT, X),), ((X,),),
    ((NOUGHT, X), (X, NOUGHT)), ((X, NOUGHT), UP, UP), ((NOUGHT, (_O, _O, (1, 2))),), {(X, NOUGHT): 1}, {(X, NOUGHT)},
    (UP, (NOUGHT, NOUGHT)), ((NOUGHT, NOUGHT), UP), (UP, (NOUGHT, Y)), (UP, UP), ((X, NOUGHT), (Y, NOUGHT), (Z, NOUGHT),
    (NOUGHT, X), (NOUGHT, Y), (NOUGHT, Z), (NOUGHT, NOUGHT)), ((X, NOUGHT), (Y, NOUGHT), (Z, NOUGHT), (NOUGHT, X),
    (NOUGHT, Y), (NOUGHT, Z), (NOUGHT, Z)),
]
WRONG_SCREW_TUPLES = [(value, 0 if isinstance(value, tuple) else None) for value in ANYTHING] + [
    ([], None), ([(X, Y)], None), ((X, Y), 0), (((X, Y), X), 1), (((X, Y), (X, Y), None), 2), ((None, (X, Y), 7), 0),
    (((X, Y), [X, Y]), 1), (((X, Y), (X, (_O, _O, (2, 4)))), 1), (((X, Y),) * 59 + ((X, 1),), 59), ({(X, Y): 1}, None),
    ({(X, Y)}, None), (((X, Y), ((X, Y),)), 1), (((X, Y), (), (X, Y)), 1), (((X, Y, X),), 0),
]


def own_kernel(rows, width):
    """Rows that make all rows of this width whose products with each of the told ones add up to 0."""
    rows = own_stairs(rows)
    places = [[at for at, value in enumerate(row) if value][0] for row in rows]
    found = []
    for free in range(width):
        if free not in places:
            row = [Fraction(int(at == free)) for at in range(width)]
            for lead, place in zip(rows, places):
                row[place] = -lead[free]
            found.append(row)
    return found


def own_meeting(first, second):
    """The meeting of two systems: the sums of the one that are sums of the other, too."""
    rows = [six(part) for part in first] + [times(-1, six(part)) for part in second]
    columns = [list(column) for column in zip(*rows)]
    found = own_kernel(columns, len(rows)) if rows else []
    return own_system([screw(weighed(first, row[:len(first)])) for row in found])


def own_line(point, direction):
    return screw(list(direction) + outer(list(point), list(direction)))


def own_turned(turning, values):
    """The three numbers turned."""
    w, u = turning[0], list(turning[1:])
    square = inner(u, u)
    total = plus(times(w * w - square, values), times(2 * inner(u, values), u))
    return times(Fraction(1) / (w * w + square), plus(total, times(2 * w, outer(u, values))))


def assert_base(case, told):
    """Whether a value is the base of a system."""
    case.assertIs(type(told), tuple)
    for part in told:
        assert_screw(case, part)
    rows = [six(part) for part in told]
    case.assertEqual(rows, own_stairs(rows))
