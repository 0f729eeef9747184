"""Springs ([44] to [46])."""
import time
import unittest
from fractions import Fraction

from sevenpins.errors import InvalidScrew, InvalidSprings
from sevenpins.screws import line_at, slide_along
from sevenpins.springs import (
    are_springs, are_steady, are_stiffer, given_way, pushed_back, softer_move, spring_energy,
)
from tests.helpers import (
    ANYTHING, NOUGHT, WRONG_DIRECTIONS, WRONG_FRACTIONS, WRONG_SCREWS, WRONG_TRIPLES, X, Y, Z, assert_screw,
    check_refusals, given, indexed, number, own_kernel, own_line, own_rank, pair, plus, same_number, same_screw, screw,
    six, times, triple, vector,
)
from tests.jigs import NOUGHT_SCREW, JigDraws, worth
from tests.test_pitches import characteristic
from tests.test_touches import own_led, own_placed, own_turned

ONE = (1, 1)
FEET = ((NOUGHT, X, ONE), (NOUGHT, Y, ONE), (NOUGHT, Z, ONE))
SIDES = ((Y, X, ONE), (Z, Y, ONE), (X, Z, ONE))
UNITS = [screw([at == place for at in range(6)]) for place in range(6)]


# Sums of the tests' own.

def own_pushes(springs):
    return [six(own_line(vector(point), vector(direction))) for point, direction, _ in springs]


def own_back(springs, move):
    """The push by which they push back, as numbers."""
    total = [Fraction(0)] * 6
    for push, (_, _, strength) in zip(own_pushes(springs), springs):
        total = plus(total, times(-number(strength) * worth(push, six(move)), push))
    return total


def own_energy(springs, move):
    told = zip(own_pushes(springs), springs)
    return sum((number(strength) * worth(push, six(move)) ** 2 for push, (_, _, strength) in told), Fraction(0))


def own_matrix(springs):
    """The form that the energy is of the six numbers of the move."""
    found = [[Fraction(0)] * 6 for _ in range(6)]
    for push, (_, _, strength) in zip(own_pushes(springs), springs):
        row = push[3:] + push[:3]
        for a in range(6):
            for b in range(6):
                found[a][b] += number(strength) * row[a] * row[b]
    return found


def own_stiffer(springs, other):
    """Whether no root of the characteristic polynomial of the forms' difference is below 0 (all of them are real)."""
    more = [[a - b for a, b in zip(*rows)] for rows in zip(own_matrix(springs), own_matrix(other))]
    told = characteristic(more)
    # Turned about, the coefficients of a polynomial without roots below 0 have one sign, besides noughts.
    return all(value * (-1) ** at >= 0 for at, value in enumerate(told))


class SpringDraws(JigDraws):
    def strength(self):
        kind = self.random.randrange(4)
        if kind == 0:
            return pair(Fraction(self.whole(1, 10 ** 24), self.whole(1, 10 ** 24)))
        return pair(Fraction(self.whole(1, 6), self.whole(1, 4 if kind == 1 else 1)))

    def springs(self, most=12, least=1):
        found = []
        for _ in range(self.whole(least, most)):
            again = found and self.random.randrange(7) == 0
            found.append(found[0] if again else (self.point(), self.way(), self.strength()))
        return tuple(found)

    def few_springs(self):
        """Springs that are never steady: all of them through one point, or in a plane, or fewer than six."""
        kind = self.random.randrange(3)
        if kind == 0:
            point = self.point()
            return tuple((point, self.way(), self.strength()) for _ in range(self.whole(1, 12)))
        if kind == 1:
            return tuple((triple((self.small(), self.small(), 0)), Z, self.strength())
                         for _ in range(self.whole(1, 12)))
        return self.springs(5)

    def steady(self):
        while True:
            found = self.springs(12, 6) if self.random.randrange(3) else FEET + SIDES + self.springs(6)
            if own_rank(own_pushes(found)) == 6:
                return found

    def load(self, springs):
        """A load: any, or a sum of multiples of the springs' pushes."""
        if self.random.randrange(3) == 0:
            return self.plain_screw() if self.random.randrange(2) else self.screw()
        total = [Fraction(0)] * 6
        for push in own_pushes(springs):
            total = plus(total, times(self.small(), push))
        return screw(total)


def told_in_halves(springs):
    """Each spring told as two halves, or as one along a longer direction; in another order."""
    found = []
    for at, (point, direction, strength) in enumerate(springs):
        value = number(strength)
        if at % 2:
            found.append((point, triple(times(-3, vector(direction))), pair(value / 9)))
        else:
            slid = triple(plus(vector(point), times(Fraction(2, 3), vector(direction))))
            found += [(point, direction, pair(value / 4)), (slid, direction, pair(value * 3 / 4))]
    return tuple(found[::-1])


class Case(unittest.TestCase):
    def drawn(self, seed, count):
        draws = SpringDraws(seed)
        for at in range(count):
            yield draws, draws.few_springs() if at % 3 == 0 else draws.springs() if at % 3 == 1 else draws.steady()


class Energy(Case):
    def test_pushing_back_and_energy(self):
        for draws, springs in self.drawn(351, 80):
            for move in (draws.screw(), draws.plain_screw(), NOUGHT_SCREW):
                same_screw(self, pushed_back(springs, move), own_back(springs, move))
                same_number(self, spring_energy(springs, move), own_energy(springs, move))
                self.assertEqual(pushed_back(move=move, springs=springs), pushed_back(springs, move))
                self.assertEqual(spring_energy(move=move, springs=springs), spring_energy(springs, move))
                self.assertEqual(own_energy(springs, move), -worth(pushed_back(springs, move), move))

    def test_steady(self):
        seen = {True: 0, False: 0}
        for _, springs in self.drawn(352, 120):
            steady = are_steady(springs)
            self.assertIs(steady, own_rank(own_pushes(springs)) == 6)
            self.assertIs(are_steady(springs=springs), steady)
            seen[steady] += 1
            idle = own_kernel([push[3:] + push[:3] for push in own_pushes(springs)], 6)
            self.assertEqual(bool(idle), not steady)
            for move in idle:
                self.assertEqual(spring_energy(springs, screw(move)), (0, 1))
        self.assertGreater(min(seen.values()), 30)

    def test_told_ones(self):
        self.assertIs(are_steady(FEET), False)
        self.assertIs(are_steady(FEET + SIDES), True)
        self.assertIs(are_steady(FEET + SIDES[:2]), False)
        self.assertIs(are_steady((FEET + SIDES)[::-1] + FEET), True)
        self.assertEqual(spring_energy(FEET, line_at(X, Z)), ONE)
        self.assertEqual(pushed_back(FEET + SIDES, slide_along(X)), screw((-2, 0, 0, 0, 0, 1)))
        soft = FEET[:2] + ((NOUGHT, Z, (1, 10 ** 40)),) + SIDES
        self.assertIs(are_steady(soft), True)
        # The third slide is felt by the soft spring and by the one beside it; with both moved along, by the soft alone.
        move = screw((0, 1, 0, 0, 0, 1))
        self.assertEqual(spring_energy(soft, move), pair(own_energy(soft, move)))


class Way(Case):
    def check_way(self, springs, load, expected=None):
        found = given_way(springs, load)
        pushes = own_pushes(springs)
        borne = own_rank(pushes + [six(load)]) == own_rank(pushes)
        if expected is not None:
            self.assertIs(borne, expected)
        if borne:
            assert_screw(self, found)
            self.assertEqual(own_back(springs, found), times(-1, six(load)))
        else:
            self.assertIsNone(found)
        self.assertEqual(given_way(load=load, springs=springs), found)
        return found

    def test_given_way(self):
        seen = {True: 0, False: 0}
        for draws, springs in self.drawn(353, 120):
            for load in (draws.load(springs), draws.load(springs), NOUGHT_SCREW):
                found = self.check_way(springs, load)
                seen[found is None] += 1
                if found is None:
                    self.assertFalse(are_steady(springs))
                    continue
                # The least energy less twice the power of the load; equal exactly by moves that no spring feels.
                least = own_energy(springs, found) - 2 * worth(load, found)
                for other in (draws.screw(), screw(plus(six(found), times(Fraction(1, 10 ** 9), draws_six(draws))))):
                    more = own_energy(springs, other) - 2 * worth(load, other) - least
                    felt = own_energy(springs, screw(plus(six(other), times(-1, six(found)))))
                    self.assertEqual(more, felt)
                    self.assertGreaterEqual(more, 0)
        self.assertGreater(min(seen.values()), 30)

    def test_steady_springs_by_one_move(self):
        draws = SpringDraws(354)
        for _ in range(30):
            springs = draws.steady()
            load, move = draws.screw(), draws.screw()
            self.check_way(springs, load, True)
            # The load that is the opposite of what they push back with by a move leads back to it.
            self.assertEqual(given_way(springs, screw(times(-1, own_back(springs, move)))), move)

    def test_one_load_on_the_other(self):
        for draws, springs in self.drawn(355, 60):
            a, b = draws.load(springs), draws.load(springs)
            s, t = given_way(springs, a), given_way(springs, b)
            if s is not None and t is not None:
                self.assertEqual(worth(a, t), worth(b, s))

    def test_told_ones(self):
        self.assertEqual(self.check_way(FEET + SIDES, line_at(NOUGHT, X), True), (Z, X))
        self.check_way(FEET, slide_along(X), False)
        self.check_way(FEET, line_at(NOUGHT, X), True)
        self.check_way(((NOUGHT, Z, (1, 10 ** 30)),), line_at(NOUGHT, Z), True)
        self.check_way(((NOUGHT, Z, ONE),), line_at(X, Z), False)

    def test_told_otherwise(self):
        draws = SpringDraws(356)
        for _ in range(30):
            springs = draws.springs(6)
            other = told_in_halves(springs)
            move, load = draws.screw(), draws.load(springs)
            self.assertEqual(pushed_back(other, move), pushed_back(springs, move))
            self.assertEqual(spring_energy(other, move), spring_energy(springs, move))
            self.assertIs(are_steady(other), are_steady(springs))
            self.assertIs(given_way(other, load) is None, given_way(springs, load) is None)
            if are_steady(springs):
                self.assertEqual(given_way(other, load), given_way(springs, load))

    def test_placed(self):
        draws = SpringDraws(357)
        for _ in range(20):
            springs, placing, move = draws.steady(), draws.placing(), draws.screw()
            moved = tuple((triple(own_placed(placing, point)), triple(own_turned(placing[0], vector(way))), strength)
                          for point, way, strength in springs)
            led = own_led(placing, move)
            self.assertEqual(spring_energy(moved, led), spring_energy(springs, move))
            self.assertEqual(pushed_back(moved, led), own_led(placing, pushed_back(springs, move)))
            self.assertEqual(given_way(moved, led), own_led(placing, given_way(springs, move)))


def draws_six(draws):
    return six(draws.plain_screw())


class Stiffer(Case):
    def check_stiffer(self, springs, other, expected=None):
        found, move = are_stiffer(springs, other), softer_move(springs, other)
        self.assertIs(found, own_stiffer(springs, other))
        if expected is not None:
            self.assertIs(found, expected)
        if found:
            self.assertIsNone(move)
        else:
            assert_screw(self, move)
            self.assertLess(own_energy(springs, move), own_energy(other, move))
        self.assertIs(are_stiffer(other=other, springs=springs), found)
        self.assertEqual(softer_move(other=other, springs=springs), move)
        return found

    def pairs(self, seed, count):
        draws = SpringDraws(seed)
        for at in range(count):
            springs = draws.few_springs() if at % 4 == 0 else draws.steady()
            kind = draws.whole(0, 4)
            if kind == 0:
                other = draws.springs()
            elif kind == 1:
                other = springs[:draws.whole(1, len(springs))]
            elif kind == 2:
                share = pair(Fraction(draws.whole(1, 5), draws.whole(1, 5)))
                other = tuple(spring[:2] + (pair(number(spring[2]) * number(share)),) for spring in springs)
            elif kind == 3:
                other = told_in_halves(springs[:6])
            else:
                # One spring is stronger, the others weaker: neither is stiffer, mostly.
                other = tuple(spring[:2] + (pair(number(spring[2]) * (3 if spot == 0 else Fraction(1, 2))),)
                              for spot, spring in enumerate(springs))
            yield draws, springs, other

    def test_stiffer_or_a_softer_move(self):
        seen = {True: 0, False: 0}
        for draws, springs, other in self.pairs(358, 120):
            for first, second in ((springs, other), (other, springs)):
                stiffer = self.check_stiffer(first, second)
                seen[stiffer] += 1
                if stiffer:
                    for move in [draws.screw(), draws.plain_screw()] + UNITS:
                        self.assertGreaterEqual(own_energy(first, move), own_energy(second, move))
        self.assertGreater(min(seen.values()), 60)

    def test_steady_ones_by_their_loads(self):
        seen = {True: 0, False: 0}
        for draws, springs, other in self.pairs(359, 60):
            if not are_steady(springs) or not are_steady(other):
                continue
            move = softer_move(springs, other)
            seen[move is None] += 1
            loads = [draws.screw(), draws.plain_screw()] + UNITS
            if move is None:
                for load in loads:
                    self.assertLessEqual(worth(load, given_way(springs, load)), worth(load, given_way(other, load)))
            else:
                # The load by which the other ones give way by this move has more power on the move of the first ones.
                load = screw(times(-1, own_back(other, move)))
                self.assertGreater(worth(load, given_way(springs, load)), worth(load, move))
        self.assertGreater(min(seen.values()), 5)

    def test_told_ones(self):
        self.check_stiffer(FEET + SIDES, FEET, True)
        self.check_stiffer(FEET, FEET + SIDES, False)
        self.check_stiffer(FEET, SIDES, False)
        self.check_stiffer(FEET, FEET, True)
        self.check_stiffer(FEET, told_in_halves(FEET), True)
        self.check_stiffer(told_in_halves(FEET), FEET[::-1], True)
        tiny = (1, 10 ** 40)
        stronger = FEET[:2] + ((NOUGHT, Z, (10 ** 40 + 1, 10 ** 40)),)
        self.check_stiffer(stronger, FEET, True)
        self.check_stiffer(FEET, stronger, False)
        self.check_stiffer(FEET, FEET + ((X, Z, tiny),), False)
        self.check_stiffer(FEET + ((X, Z, tiny),), FEET, True)
        # Two springs side by side are as stiff for slides as one in the middle of their strength, and stiffer else.
        middle, sides = ((NOUGHT, Z, (2, 1)),), ((X, Z, ONE), (triple((-1, 0, 0)), Z, ONE))
        self.check_stiffer(sides, middle, True)
        self.check_stiffer(middle, sides, False)
        # A softer one across: energies neither way at least.
        self.check_stiffer(((NOUGHT, X, ONE), (NOUGHT, Y, ONE)), ((NOUGHT, triple((1, 1, 0)), (1, 2)),), True)
        self.check_stiffer(((NOUGHT, X, ONE), (NOUGHT, Y, ONE)), ((NOUGHT, triple((1, 1, 0)), (501, 1000)),), False)

    def test_against_itself_and_stronger(self):
        for draws, springs in self.drawn(360, 40):
            self.check_stiffer(springs, springs, True)
            self.check_stiffer(springs, springs[::-1], True)
            half = tuple(spring[:2] + (pair(number(spring[2]) / 2),) for spring in springs)
            self.check_stiffer(springs, half, True)
            self.check_stiffer(half, springs, False)
            if len(springs) <= 6:
                self.check_stiffer(half + half, springs, True)
                self.check_stiffer(springs, half + half, True)

    def test_greatest_springs_in_time(self):
        draws, far = SpringDraws(361), 10 ** 20
        for _ in range(3):
            def value():
                return Fraction(draws.whole(-far, far), draws.whole(1, far))
            told = [tuple((triple([value() for _ in range(3)]), triple([value() for _ in range(3)]),
                           pair(abs(value()) + 1)) for _ in range(12)) for _ in range(2)]
            load, began = screw([value() for _ in range(6)]), time.process_time()
            given_way(told[0], load)
            are_stiffer(told[0], told[1])
            softer_move(told[0], told[0][:11])
            are_steady(told[0])
            self.assertLess(time.process_time() - began, 5)
            self.check_stiffer(told[0], told[0][:11], True)
            self.assertEqual(own_back(told[0], given_way(told[0], load)), times(-1, six(load)))


def wrong_springs():
    """Pairs of what is no springs and the index that is kept."""
    good = (X, Y, ONE)
    wrong = list(ANYTHING) + [X, (X, Y), (X, Y, ONE, ONE), [X, Y, ONE], (ONE, X, Y), (X, ONE, Y), (X, Y, (0, 1))]
    wrong += [(X, Y, (-1, 2)), (X, Y, 1), (X, NOUGHT, ONE), ("spring", X, Y), (good,), {X: Y}, ((X, Y), ONE)]
    wrong += [(value, Y, ONE) for value in WRONG_TRIPLES] + [(X, value, ONE) for value in WRONG_DIRECTIONS]
    wrong += [(X, Y, value) for value in WRONG_FRACTIONS]
    found = [(value, 0 if isinstance(value, tuple) and value else None) for value in ANYTHING]
    found += [((), None), ([], None), ([good], None), ({good: 1}, None), (good, 0), ((good, [good]), 1)]
    found += [((good,) * place + (value, None), place) for place in (0, 11) for value in wrong]
    found += [((good,) * 12 + (last,), 12) for last in (good, None)] + [((good,) * 60, 12)]
    return found


WRONG_SPRINGS = wrong_springs()


class Refusals(Case):
    springs = indexed(WRONG_SPRINGS, InvalidSprings)
    screws = given(WRONG_SCREWS, InvalidScrew)

    def test_are_springs(self):
        for value, _ in WRONG_SPRINGS:
            self.assertIs(are_springs(value), False, value)
        for _, springs in self.drawn(362, 40):
            self.assertIs(are_springs(value=springs), True)
        self.assertIs(are_springs((FEET + SIDES) * 2), True)

    def test_springs(self):
        check_refusals(self, are_steady, {"springs": FEET}, {"springs": self.springs})

    def test_beside_springs(self):
        for function, name in ((pushed_back, "move"), (spring_energy, "move"), (given_way, "load")):
            check_refusals(self, function, {"springs": FEET, name: (X, Y)}, {
                "springs": self.springs[::9], name: self.screws,
            })

    def test_two_springs(self):
        for function in (are_stiffer, softer_move):
            check_refusals(self, function, {"springs": FEET, "other": SIDES}, {
                "springs": self.springs[::5], "other": self.springs[::3],
            })


if __name__ == "__main__":
    unittest.main()
