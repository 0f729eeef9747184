"""Cranes and the stands at which they are lost ([25] to [27])."""
import unittest
from fractions import Fraction
from math import isqrt

from sevenpins.errors import InvalidCrane, InvalidFraction, InvalidIndex, InvalidNumber, InvalidStand
from sevenpins.stands import (
    idle_push, is_crane, is_lost, lost_below, lost_count, lost_near, screws_at, stand_rows,
)
from tests.helpers import (
    ANYTHING, NOUGHT, WRONG_FRACTIONS, WRONG_WHOLES, X, Y, Z, assert_fraction, assert_screw, assert_whole,
    check_refusals, given, indexed, inner, minus, number, outer, own_power, own_rank, pair, plus, same_screw, screw,
    six, times, triple, vector,
)
from tests.test_joints import GOOD, WRONG_JOINTS, JointDraws

WORDS = ("turn", "slide", "screw")
TINY = Fraction(1, 10 ** 30)


# Sums of the tests' own: screws led as [25] tells it, determinants, and roots counted by rows of signs.

def own_turn(values, a, stand):
    """The numbers w turned as told: v of [25]."""
    square = inner(a, a)
    if stand is None:
        return minus(times(2 * inner(a, values) / square, a), values)
    t = Fraction(stand)
    total = plus(times(1 - t * t * square, values), times(2 * t, outer(a, values)))
    return times(1 / (1 + t * t * square), plus(total, times(2 * t * t * inner(a, values), a)))


def own_screws_at(crane, index, stand):
    r, a = vector(crane[index][1]), vector(crane[index][2])
    found = []
    for at, joint in enumerate(crane):
        d = vector(joint[1] if joint[0] == "slide" else joint[2])
        point = vector(NOUGHT if joint[0] == "slide" else joint[1])
        if at > index:
            d = own_turn(d, a, stand)
            point = plus(r, own_turn(minus(point, r), a, stand))
        if joint[0] == "slide":
            found.append([Fraction(0)] * 3 + d)
        else:
            pitch = number(joint[3]) if joint[0] == "screw" else 0
            found.append(d + plus(outer(point, d), times(pitch, d)))
    return found


def own_determinant(rows):
    rows, worth = [list(row) for row in rows], Fraction(1)
    while rows:
        at = [place for place, row in enumerate(rows) if row[0] != 0]
        if not at:
            return Fraction(0)
        lead = rows.pop(at[0])
        worth *= lead[0] * (-1) ** at[0]
        rows = [minus(row, times(row[0] / lead[0], lead))[1:] for row in rows]
    return worth


def worth_at(numbers, x):
    """What the polynomial is at x; its numbers stand from the lowest power on."""
    return sum((value * x ** at for at, value in enumerate(numbers)), Fraction(0))


def bare(numbers):
    numbers = list(numbers)
    while numbers and numbers[-1] == 0:
        numbers.pop()
    return numbers


def divided(first, second):
    """What is gained and what is left."""
    gained, left = [Fraction(0)] * max(0, len(first) - len(second) + 1), list(first)
    for at in range(len(gained) - 1, -1, -1):
        gained[at] = left[at + len(second) - 1] / second[-1]
        for place, value in enumerate(second):
            left[at + place] -= gained[at] * value
    return gained, bare(left)


def own_chain(numbers):
    chain = [bare(numbers), [at * value for at, value in enumerate(bare(numbers))][1:]]
    while chain[-1]:
        chain.append([-value for value in divided(chain[-2], chain[-1])[1]])
    return chain[:-1]


def own_changes(values):
    signs = [value > 0 for value in values if value != 0]
    return sum(1 for one, next_one in zip(signs, signs[1:]) if one != next_one)


def own_roots_below(numbers, x):
    """How many roots are below x, each counted once; x None counts all."""
    once = divided(bare(numbers), own_chain(numbers)[-1])[0]
    chain = own_chain(once)
    low = own_changes([row[-1] * (-1) ** (len(row) - 1) for row in chain])
    if x is None:
        return low - own_changes([row[-1] for row in chain])
    return low - own_changes([worth_at(row, x) for row in chain]) - (worth_at(once, x) == 0)


# Cranes.

class CraneDraws(JointDraws):
    def plain_direction(self):
        found = self.plain()
        return found if any(vector(found)) else Y

    def plain_joint(self, word):
        point, direction = self.plain(), self.plain_direction()
        if word == "slide":
            return (word, direction)
        return (word, point, direction) if word == "turn" else (word, point, direction, pair(self.small()))

    def crane(self):
        """A crane and the index of a turn in it."""
        plain = self.random.randrange(5)
        joints = [self.plain_joint(self.pick(("turn",) + WORDS)) if plain else self.joint(WORDS) for _ in range(6)]
        index = self.whole(0, 5)
        joints[index] = self.plain_joint("turn") if plain else self.joint(("turn",))
        if plain == 1:
            joints[self.pick([at for at in range(6) if at != index])] = joints[index]
        return tuple(joints), index

    def quadratic(self):
        return [self.whole(-3, 3) for _ in range(3)]


def crane_for(numbers, side=None, length=1):
    """A crane, and the index 3 or 4 of a turn: it is lost where q0 + q1 T + q2 T T is 0, T being its stand * length.

    With a side u it is lost at T = - u and at T = 1 / u, too.
    """
    q0, q1, q2 = [Fraction(value) for value in numbers]
    # The last slide, (1, 0, 1) turned, is at right angles to m exactly there.
    m = [(q0 - q2) / 2, q1 / 2, (q0 + q2) / 2]
    axes = [[0, m[2], -m[1]], [-m[2], 0, m[0]], [m[1], -m[0], 0]]
    slides = [axis for axis in axes if any(axis)][:2]
    first = [("slide", triple(slide)) for slide in slides]
    axle, last = ("turn", X, triple((0, 0, length))), ("slide", triple((1, 0, 1)))
    if side is None:
        return tuple(first) + (("turn", NOUGHT, X), ("turn", Z, Y), axle, last), 4
    u = Fraction(side)
    lean = ("turn", triple((0, 5, 7)), triple((1 - u * u, 2 * u, 0)))
    return tuple(first) + (("turn", Y, X), axle, lean, last), 3


def known_cranes():
    """Cranes, the index of a turn, and the stands at which they are lost, in order."""
    half = Fraction(1, 2)
    for length in (1, -2, Fraction(3, 7)):
        for numbers, roots in [
            ((1, 0, 1), []), ((1, 1, 1), []), ((4, 4, 1), [-2]), ((1, 6, 9), [Fraction(-1, 3)]), ((0, 0, 5), [0]),
            ((3, 0, 0), [None]), ((2, -3, 1), [1, 2]), ((-1, 0, 4), [-half, half]), ((0, 7, 0), [0, None]),
            ((0, 1, 3), [Fraction(-1, 3), 0]), ((-2, 5, 0), [Fraction(2, 5), None]),
            ((1, -10 ** 30, 0), [Fraction(1, 10 ** 30), None]),
        ]:
            for side in (None, 0, half) if length == 1 else (None, Fraction(3, 2), 1):
                found = list(roots)
                if side is not None:
                    found += [-side, 1 / Fraction(side) if side else None]
                stands = sorted({Fraction(root) / length for root in found if root is not None})
                crane, index = crane_for(numbers, side, length)
                yield crane, index, stands + [None] * (None in found)


SLIDES = (("slide", X), ("slide", Y), ("slide", Z))
WRIST = (("turn", NOUGHT, X), ("turn", NOUGHT, Z), ("turn", NOUGHT, X)) + SLIDES


class Stands(unittest.TestCase):
    def test_is_crane(self):
        draws = CraneDraws(121)
        for _ in range(100):
            self.assertIs(is_crane(draws.crane()[0]), True)
        self.assertIs(is_crane(value=SLIDES * 2), True)
        for value, _ in WRONG_CRANES:
            self.assertIs(is_crane(value), False, value)

    def test_screws_at(self):
        draws = CraneDraws(122)
        for _ in range(200):
            crane, index = draws.crane()
            stand = draws.pick((None, draws.fraction(), pair(draws.small()), (0, 1)))
            found = screws_at(crane, index, stand)
            self.assertIs(type(found), tuple)
            self.assertEqual(len(found), 6)
            expected = own_screws_at(crane, index, None if stand is None else number(stand))
            for told, values in zip(found, expected):
                same_screw(self, told, values)
            self.assertEqual(screws_at(stand=stand, crane=crane, index=index), found)
            self.assertEqual(screws_at(crane, index, (0, 1)), tuple(
                screw(values) for values in own_screws_at(crane, index, 0)
            ))

    def test_led_by_hand(self):
        ahead = (("turn", X, Z), ("turn", NOUGHT, Y), ("slide", triple((3, 0, 0))), ("screw", X, X, (5, 2)))
        crane = ahead + SLIDES[:2]
        quarter = screws_at(crane, 0, (1, 1))
        # By a quarter about the line through (1, 0, 0) along z the origin goes to (1, -1, 0), x to y, y to - x.
        self.assertEqual(quarter[0], (Z, triple((0, -1, 0))))
        self.assertEqual(quarter[1], (triple((-1, 0, 0)), triple((0, 0, -1))))
        self.assertEqual(quarter[2], (NOUGHT, triple((0, 3, 0))))
        self.assertEqual(quarter[3], (Y, triple((0, Fraction(5, 2), 1))))
        half = screws_at(crane, 0, None)
        self.assertEqual(half[1], (triple((0, -1, 0)), triple((0, 0, -2))))
        self.assertEqual(half[2], (NOUGHT, triple((-3, 0, 0))))
        self.assertEqual(screws_at(crane, 1, None)[0], quarter[0])

    def test_five_fractions(self):
        draws = CraneDraws(123)
        for at in range(120):
            crane, index = draws.crane()
            found = stand_rows(crane, index)
            self.assertIs(type(found), tuple)
            self.assertEqual(len(found), 5)
            for value in found:
                assert_fraction(self, value)
            self.assertEqual(stand_rows(index=index, crane=crane), found)
            numbers, a = [number(value) for value in found], vector(crane[index][2])
            for t in [Fraction(value) for value in (0, 1, -1, 3, Fraction(-2, 5))] + [draws.number()]:
                stretch = 1 + t * t * inner(a, a)
                determinant = own_determinant(own_screws_at(crane, index, t))
                self.assertEqual(determinant * stretch * stretch, worth_at(numbers, t))
            determinant = own_determinant(own_screws_at(crane, index, None))
            self.assertEqual(determinant * inner(a, a) * inner(a, a), numbers[4])

    def test_direction_twice_as_long_and_opposite(self):
        draws = CraneDraws(124)
        for _ in range(60):
            crane, index = draws.crane()
            turn = crane[index]
            for factor in (2, -1, Fraction(-2, 3)):
                longer = ("turn", turn[1], triple(times(factor, vector(turn[2]))))
                other = crane[:index] + (longer,) + crane[index + 1:]
                self.assertEqual(lost_count(other, index), lost_count(crane, index))
                stand = draws.pick((Fraction(0), Fraction(1), draws.number()))
                self.assertIs(is_lost(other, index, pair(stand / factor)), is_lost(crane, index, pair(stand)))
                self.assertEqual(
                    [times(factor if at == index else 1, six(told))
                     for at, told in enumerate(screws_at(crane, index, pair(stand)))],
                    [six(told) for told in screws_at(other, index, pair(stand / factor))],
                )
                self.assertIs(is_lost(other, index, None), is_lost(crane, index, None))

    def check_stand(self, crane, index, stand, expected=None):
        told = None if stand is None else pair(stand)
        rows = own_screws_at(crane, index, stand)
        lost = own_determinant(rows) == 0
        self.assertIs(is_lost(crane, index, told), lost)
        self.assertIs(lost, own_rank(rows) < 6)
        push = idle_push(crane, index, told)
        if lost:
            assert_screw(self, push)
            self.assertTrue(any(six(push)))
            for values in rows:
                self.assertEqual(own_power(push, screw(values)), 0)
        else:
            self.assertIsNone(push)
        self.assertIs(is_lost(stand=told, index=index, crane=crane), lost)
        self.assertEqual(idle_push(stand=told, index=index, crane=crane), push)
        if expected is not None:
            self.assertIs(lost, expected)

    def test_lost_and_idle_pushes(self):
        draws = CraneDraws(125)
        for _ in range(100):
            crane, index = draws.crane()
            for stand in (None, Fraction(0), Fraction(1), draws.number()):
                self.check_stand(crane, index, stand)

    def check_near(self, crane, index, place, stand, many):
        """lost_near for a stand with this number, a fraction."""
        expected = (stand * many).numerator // (stand * many).denominator
        self.assertEqual(lost_near(crane, index, place, many), expected)
        self.assertEqual(lost_near(many=many, place=place, index=index, crane=crane), expected)

    def test_known_stands(self):
        counts = set()
        for crane, index, stands in known_cranes():
            found = lost_count(crane, index)
            assert_whole(self, found)
            self.assertEqual(found, len(stands))
            self.assertEqual(lost_count(index=index, crane=crane), found)
            counts.add((found, None in stands))
            numbered = [stand for stand in stands if stand is not None]
            for place, stand in enumerate(stands):
                self.check_stand(crane, index, stand, True)
                if stand is None:
                    self.assertIsNone(lost_near(crane, index, place, 10))
                    continue
                for x, below in ((stand, place), (stand - TINY / 10, place), (stand + TINY / 10, place + 1)):
                    self.assertEqual(lost_below(crane, index, pair(x)), below)
                    self.check_stand(crane, index, x, x == stand)
                for many in (1, 10 ** 12):
                    self.check_near(crane, index, place, stand, many)
            self.assertEqual(lost_below(crane, index, (10 ** 40, 1)), len(numbered))
            self.assertEqual(lost_below(fraction=(-10 ** 40, 1), crane=crane, index=index), 0)
            self.check_stand(crane, index, None, None in stands)
            for wrong in (found, found + 1, -1):
                self.assertRaises(InvalidNumber, lambda: lost_near(crane, index, wrong, 1))
        self.assertEqual({count for count, _ in counts}, {0, 1, 2, 3, 4})
        self.assertTrue({(1, True), (2, True), (3, True), (4, True), (4, False), (1, False)} <= counts)

    def test_stands_that_no_fraction_tells(self):
        for inside in (2, 3, 10 ** 20 + 1, Fraction(5, 9)):
            crane, index = crane_for((-inside, 0, 1), 1)
            root = Fraction(inside)
            stands = sorted([(-1, 1), (1, 1)] + [(sign * root, None) for sign in (-1, 1)], key=lambda told: told[0])
            self.assertEqual(lost_count(crane, index), 4)
            for many in (1, 7, 10 ** 6, 10 ** 12):
                near = isqrt(root.numerator * many * many // root.denominator)
                expected = {-1: -many, 1: many, -root: -near - 1, root: near}
                for place, (value, _) in enumerate(stands):
                    self.assertEqual(lost_near(crane, index, place, many), expected[value])
                    below = lost_below(crane, index, pair(Fraction(expected[value], many)))
                    self.assertLessEqual(below, place)
                    above = lost_below(crane, index, pair(Fraction(expected[value] + 1, many)))
                    self.assertGreater(above, place)
        crane, index = crane_for((-2, 0, 1))
        self.assertEqual([lost_near(crane, index, place, 10 ** 12) for place in (0, 1)],
                         [-1414213562374, 1414213562373])
        self.assertFalse(is_lost(crane, index, (1414213562373, 10 ** 12)))

    def test_lost_at_all_stands(self):
        all_ways = [
            (WRIST, 0), (SLIDES + SLIDES[:2] + (("turn", NOUGHT, X),), 5), ((("turn", X, Z),) * 6, 3),
            ((("turn", NOUGHT, Z),) + WRIST[:3] + SLIDES[:2], 0),
        ]
        for crane, index in all_ways:
            self.assertEqual(stand_rows(crane, index), ((0, 1),) * 5)
            self.assertEqual(lost_count(crane, index), "all")
            self.assertEqual(lost_below(crane, index, (0, 1)), "all")
            for stand in (Fraction(0), Fraction(-7, 3), None):
                self.check_stand(crane, index, stand, True)
            for place in (0, 1, -1):
                self.assertRaises(InvalidNumber, lambda: lost_near(crane, index, place, 1))

    def test_counted_by_own_rows_of_signs(self):
        draws = CraneDraws(126)
        counts = {}
        for _ in range(300):
            crane, index = draws.crane()
            numbers = [number(value) for value in stand_rows(crane, index)]
            if not any(numbers):
                self.assertEqual(lost_count(crane, index), "all")
                continue
            numbered = own_roots_below(numbers, None)
            half = numbers[4] == 0
            self.assertEqual(lost_count(crane, index), numbered + half)
            counts[numbered + half] = counts.get(numbered + half, 0) + 1
            for x in (Fraction(0), Fraction(1), Fraction(-1), draws.number(), draws.small()):
                self.assertEqual(lost_below(crane, index, pair(x)), own_roots_below(numbers, x))
            many = draws.pick((1, 10, 3, 10 ** 12, draws.whole(1, 10 ** 12)))
            for place in range(numbered):
                near = lost_near(crane, index, place, many)
                assert_whole(self, near)
                self.assertLessEqual(own_roots_below(numbers, Fraction(near, many)), place)
                self.assertGreater(own_roots_below(numbers, Fraction(near + 1, many)), place)
            if half:
                self.assertIsNone(lost_near(crane, index, numbered, many))
        self.assertEqual(set(counts), {0, 1, 2, 3, 4})

    def test_large_numbers(self):
        draws = CraneDraws(127)
        far = 10 ** 80
        for _ in range(3):
            crane = tuple(
                ("turn", triple([draws.whole(-far, far) for _ in range(3)]),
                 triple([Fraction(draws.whole(1, far), draws.whole(1, far)) for _ in range(3)])) for _ in range(6)
            )
            numbers = [number(value) for value in stand_rows(crane, 2)]
            found = lost_count(crane, 2)
            self.assertEqual(found, own_roots_below(numbers, None))
            for place in range(found):
                near = lost_near(crane, 2, place, 10 ** 12)
                low, high = [worth_at(numbers, Fraction(value, 10 ** 12)) for value in (near, near + 1)]
                # The roots are far enough from each other: below the one at this place are as many as before it.
                self.assertLess(low * high, 0)
                self.assertGreater(low * numbers[4] * (-1) ** place, 0)


def wrong_cranes():
    good = ("turn", Y, Z)
    found = [(value, None) for value in ANYTHING if not (isinstance(value, tuple) and len(value) == 6)]
    found += [((), None), ((good,) * 5, None), ((good,) * 7, None), ([good] * 6, None), ((None,) * 7, None)]
    found += [((None,) * 6, 0), ({good: at for at in range(6)}, None), ((good,) * 60, None), ("turnup", None)]
    found += [((good,) * place + (value,) + (None,) * (5 - place), place) for place in (0, 5) for value in WRONG_JOINTS]
    others = tuple(joint for word, joint in GOOD.items() if word not in WORDS)
    found += [((good,) * 3 + (value,) + (good,) * 2, 3) for value in others]
    found += [((good,) * 2 + (value,) + others[:3], 2) for value in others]
    return found


WRONG_CRANES = wrong_cranes()


class Refusals(unittest.TestCase):
    good = SLIDES + (("turn", X, Z), ("screw", X, Z, (1, 2)), ("turn", Y, X))
    cranes = indexed(WRONG_CRANES, InvalidCrane)
    indexes = given(WRONG_WHOLES + [0, 1, 2, 4, 6, -1, -3, 10 ** 30, True, False], InvalidIndex)
    stands = given([value for value in WRONG_FRACTIONS if value is not None], InvalidStand)

    def test_rows_and_counts(self):
        for function in (stand_rows, lost_count):
            check_refusals(self, function, {"crane": self.good, "index": 3},
                           {"crane": self.cranes, "index": self.indexes})

    def test_stands(self):
        for function in (screws_at, is_lost, idle_push):
            check_refusals(self, function, {"crane": self.good, "index": 5, "stand": None},
                           {"crane": self.cranes[::5], "index": self.indexes, "stand": self.stands})

    def test_lost_below(self):
        fractions = given(WRONG_FRACTIONS, InvalidFraction)
        check_refusals(self, lost_below, {"crane": self.good, "index": 3, "fraction": (0, 1)},
                       {"crane": self.cranes[::5], "index": self.indexes, "fraction": fractions})

    def test_lost_near(self):
        places = given(WRONG_WHOLES + [2, 3, -1, -2, 10 ** 30, True, False], InvalidNumber)
        finenesses = given(WRONG_WHOLES + [0, -1, 10 ** 12 + 1, 10 ** 40, True], InvalidNumber)
        check_refusals(self, lost_near, {"crane": WRIST, "index": 1, "place": 0, "many": 1}, {
            "crane": self.cranes[::5], "index": given([3, 4, 5, -1, 6, None, True, (1,)], InvalidIndex),
            "place": places, "many": finenesses,
        })
        for many in (0, None, 10 ** 12 + 1):
            # The half turn is no way past a wrong fineness.
            self.assertRaises(InvalidNumber, lambda: lost_near(WRIST, 1, 1, many))
        self.assertIsNone(lost_near(WRIST, 1, 1, 10 ** 12))


if __name__ == "__main__":
    unittest.main()
