"""Blows on bodies of masses ([41] to [43])."""
import time
import unittest
from fractions import Fraction
from itertools import combinations

from sevenpins.blows import (
    blown, energy, is_body, kept_blow, middle, momentum, stop_blows, struck,
)
from sevenpins.errors import InvalidBody, InvalidJig, InvalidScrew, InvalidSystem, TooMany
from sevenpins.screws import line_at
from tests.helpers import (
    ANYTHING, NOUGHT, WRONG_FRACTIONS, WRONG_SCREWS, WRONG_SYSTEMS, WRONG_TRIPLES, X, Y, Z, assert_fraction,
    assert_screw, check_refusals, given, indexed, inner, minus, number, outer, own_back, own_is_in, own_rank,
    own_stairs, own_system, pair, plus, refused, same_number, same_screw, same_vector, screw, six, times, triple,
    vector, weighed, wrong_bases,
)
from tests.jigs import (
    GOOD_TOUCHES, NOUGHT_SCREW, WRONG_JIGS, JigDraws, Left, own_is_left, own_jig_rows, own_made, worth,
)
from tests.test_touches import own_led, own_placed, own_placed_jig

ONE = (1, 1)
DOWN = triple((0, 0, -1))
CROSS = tuple((triple(point), ONE) for point in ((1, 0, 0), (-1, 0, 0), (0, 1, 0), (0, -1, 0)))


# Sums of the tests' own.

def speeds(body, move):
    values = six(move) if isinstance(move, tuple) else move
    return [plus(values[3:], outer(values[:3], vector(point))) for point, _ in body]


def own_momentum(body, move):
    total = [Fraction(0)] * 6
    for (point, mass), speed in zip(body, speeds(body, move)):
        force = times(number(mass), speed)
        total = plus(total, force + outer(vector(point), force))
    return total


def own_energy(body, move):
    return sum((number(mass) * inner(speed, speed) for (_, mass), speed in zip(body, speeds(body, move))), Fraction(0))


def solved(rows, target):
    """The weights of the rows that make the target, None if there are none; those that may be anything are 0."""
    columns = [list(column) + [value] for column, value in zip(zip(*rows), target)]
    found = [Fraction(0)] * len(rows)
    for row in own_stairs(columns):
        place = [at for at, value in enumerate(row) if value][0]
        if place == len(rows):
            return None
        found[place] = row[-1]
    return found


def own_kept(body, screws, blow):
    """The numbers of the move, one of the sums of independent screws, whose momentum meets the blow on all of them."""
    momenta = [own_momentum(body, part) for part in screws]
    rows = [[worth(push, part) for part in screws] for push in momenta]
    shares = solved(rows, [worth(blow, part) for part in screws]) if screws else []
    return weighed(screws, shares)


def own_struck(rows, body, blow):
    """The numbers of the move of [43]: of the moves kept to some of the rows, those that are left, the least one."""
    fixed = [push for push, both in rows if both]
    free = [push for push, both in rows if not both]
    best = None
    for many in range(len(free) + 1):
        for chosen in combinations(free, many):
            move = own_kept(body, own_back(own_system(fixed + list(chosen))), blow)
            if own_is_left(rows, move) and (best is None or goal(body, blow, move) < goal(body, blow, best)):
                best = move
    return best


def goal(body, blow, move):
    """The energy less twice the power of the blow."""
    return own_energy(body, move) - 2 * worth(blow, move)


# Bodies and blows.

class BodyDraws(JigDraws):
    def mass(self):
        kind = self.random.randrange(4)
        if kind == 0:
            return pair(Fraction(self.whole(1, 10 ** 24), self.whole(1, 10 ** 24)))
        return pair(Fraction(self.whole(1, 9), self.whole(1, 4 if kind == 1 else 1)))

    def body(self, points=None):
        wanted = self.whole(3, 8) if points is None else points
        while True:
            found = [(self.point(), self.mass()) for _ in range(wanted)]
            if wanted > 3 and self.random.randrange(3) == 0:
                found[-1] = (found[0][0], self.mass())
            if own_rank([minus(vector(point), vector(found[0][0])) for point, _ in found]) > 1:
                return tuple(found)

    def blow(self):
        kind = self.random.randrange(6)
        if kind == 0:
            return NOUGHT_SCREW
        if kind == 1:
            return (NOUGHT, self.direction())
        if kind == 2:
            return line_at(self.point(), self.way())
        return self.plain_screw() if kind == 3 else self.screw()

    def few_stops(self, one_way=6, most=9):
        """A jig with at most so many rows one way."""
        found = []
        for _ in range(self.whole(1, most)):
            touch = found[0] if found and self.random.randrange(7) == 0 else self.touch()
            rows = own_jig_rows(found + [touch])
            if len([both for _, both in rows if not both]) <= one_way:
                found.append(touch)
        return tuple(found) if found else (("pin", self.point(), self.way()),)


class Case(unittest.TestCase):
    def check_least(self, body, blow, move, others):
        """The energy is the power of the blow; other moves have no less energy less twice the power of the blow."""
        self.assertEqual(own_energy(body, move), worth(blow, move))
        for other in others:
            if [Fraction(value) for value in other] != six(move):
                self.assertGreater(goal(body, blow, other), goal(body, blow, six(move)))


class Bodies(Case):
    def test_is_body(self):
        draws = BodyDraws(321)
        for points in range(3, 9):
            for _ in range(6):
                self.assertIs(is_body(value=draws.body(points)), True)
        for value, _ in WRONG_BODIES:
            self.assertIs(is_body(value), False)

    def test_middle(self):
        draws = BodyDraws(322)
        for _ in range(60):
            body = draws.body()
            total, masses = [Fraction(0)] * 3, Fraction(0)
            for point, mass in body:
                total, masses = plus(total, times(number(mass), vector(point))), masses + number(mass)
            same_vector(self, middle(body), times(1 / masses, total))
            self.assertEqual(middle(body=body), middle(body))
            # By a slide all of the momentum is one force at the middle.
            way = draws.way()
            force = times(masses, vector(way))
            self.assertEqual(six(momentum(body, (NOUGHT, way))), force + outer(vector(middle(body)), force))
        self.assertEqual(middle(CROSS), NOUGHT)
        self.assertEqual(middle(((X, ONE), (Y, (2, 1)), (NOUGHT, ONE))), triple((Fraction(1, 4), Fraction(1, 2), 0)))

    def test_momentum_and_energy(self):
        draws = BodyDraws(323)
        for _ in range(80):
            body, move, other = draws.body(), draws.blow(), draws.screw()
            same_screw(self, momentum(body, move), own_momentum(body, move))
            same_number(self, energy(body, move), own_energy(body, move))
            self.assertEqual(momentum(move=move, body=body), momentum(body, move))
            self.assertEqual(energy(move=move, body=body), energy(body, move))
            self.assertEqual(number(energy(body, move)), worth(momentum(body, move), move))
            self.assertEqual(energy(body, move)[0] > 0, move != NOUGHT_SCREW)
            self.assertEqual(worth(momentum(body, move), other), worth(momentum(body, other), move))

    def test_nearly_on_a_line(self):
        far = Fraction(1, 10 ** 30)
        body = ((NOUGHT, ONE), (X, ONE), (triple((2, far, 0)), ONE))
        self.assertIs(is_body(body), True)
        turn = line_at(NOUGHT, X)
        self.assertEqual(energy(body, turn), (1, 10 ** 60))
        self.assertEqual(momentum(body, blown(body, turn)), turn)
        self.assertIs(is_body(body[:2] + ((triple((2, 0, 0)), ONE),)), False)

    def test_by_hand(self):
        # The momentum of a move (W, V) of the cross is (4 V, (2 W1, 2 W2, 4 W3)).
        draws = BodyDraws(324)
        for _ in range(10):
            move = draws.screw()
            w, v = six(move)[:3], six(move)[3:]
            self.assertEqual(six(momentum(CROSS, move)), times(4, v) + [2 * w[0], 2 * w[1], 4 * w[2]])
        knock = line_at(X, Z)
        self.assertEqual(blown(CROSS, knock), screw((0, Fraction(-1, 2), 0, 0, 0, Fraction(1, 4))))
        self.assertEqual(energy(CROSS, blown(CROSS, knock)), (3, 4))

    def test_placed(self):
        draws = BodyDraws(325)
        for _ in range(20):
            body, move, placing = draws.body(), draws.screw(), draws.placing()
            moved = tuple((triple(own_placed(placing, point)), mass) for point, mass in body)
            self.assertEqual(momentum(moved, own_led(placing, move)), own_led(placing, momentum(body, move)))
            self.assertEqual(energy(moved, own_led(placing, move)), energy(body, move))
            self.assertEqual(vector(middle(moved)), own_placed(placing, middle(body)))
            blow = draws.blow()
            self.assertEqual(blown(moved, own_led(placing, blow)), own_led(placing, blown(body, blow)))


class Free(Case):
    def test_blown(self):
        draws = BodyDraws(326)
        for _ in range(60):
            body, blow = draws.body(), draws.blow()
            found = blown(body, blow)
            assert_screw(self, found)
            self.assertEqual(own_momentum(body, found), six(blow))
            self.check_least(body, blow, found, [six(draws.screw()) for _ in range(6)] + [
                plus(six(found), times(Fraction(1, 10 ** 9), six(draws.plain_screw()))) for _ in range(3)])
            self.assertEqual(blown(blow=blow, body=body), found)
            self.assertEqual(kept_blow(body, own_back(()), blow), found)
        self.assertEqual(blown(CROSS, NOUGHT_SCREW), NOUGHT_SCREW)

    def test_kept_blow(self):
        draws, orders = BodyDraws(327), set()
        for at in range(120):
            screws = draws.screws(at % 7)
            system = own_system(screws) if at % 3 else own_back(own_system(screws))
            body, blow = draws.body(), draws.blow()
            found = kept_blow(body, system, blow)
            assert_screw(self, found)
            orders.add(len(system))
            self.assertTrue(own_is_in(system, found))
            less = minus(own_momentum(body, found), six(blow))
            self.assertTrue(all(worth(less, six(part)) == 0 for part in system))
            others = [weighed(system, [draws.number() for _ in system]) for _ in range(5)]
            self.check_least(body, blow, found, others)
            self.assertEqual(six(found), own_kept(body, system, blow))
            self.assertEqual(kept_blow(blow=blow, system=system, body=body), found)
        self.assertEqual(orders, set(range(7)))
        self.assertEqual(kept_blow(CROSS, (), line_at(X, Z)), NOUGHT_SCREW)

    def test_kept_to_what_the_blow_does_not_move(self):
        hinge = own_system([line_at(NOUGHT, Z)])
        self.assertEqual(kept_blow(CROSS, hinge, line_at(X, Z)), NOUGHT_SCREW)
        self.assertEqual(kept_blow(CROSS, hinge, line_at(X, Y)), screw((0, 0, Fraction(1, 4), 0, 0, 0)))


class Struck(Case):
    def check_struck(self, jig, body, blow):
        """The move and its weights, by own sums; how many rows one way press, and how many are passed with power."""
        rows, move, weights = own_jig_rows(jig), struck(jig, body, blow), stop_blows(jig, body, blow)
        assert_screw(self, move)
        self.assertTrue(own_is_left(rows, move))
        self.assertIs(type(weights), tuple)
        self.assertEqual(len(weights), len(rows))
        pressing = opening = 0
        for (push, both), weight in zip(rows, weights):
            assert_fraction(self, weight)
            if not both:
                self.assertGreaterEqual(weight[0], 0)
                self.assertEqual(number(weight) * worth(push, move), 0)
                pressing += weight[0] > 0
                opening += worth(push, move) > 0
        self.assertEqual(own_momentum(body, move), plus(six(blow), own_made(rows, weights)))
        self.assertEqual(own_energy(body, move), worth(blow, move))
        self.assertEqual(struck(blow=blow, body=body, jig=jig), move)
        self.assertEqual(stop_blows(blow=blow, body=body, jig=jig), weights)
        return rows, move, pressing, opening

    def test_drawn(self):
        draws, seen = BodyDraws(328), {}
        for _ in range(220):
            jig, body, blow = draws.few_stops(), draws.body(), draws.blow()
            rows, move, pressing, opening = self.check_struck(jig, body, blow)
            one_way = len([both for _, both in rows if not both])
            seen["rows", one_way] = True
            kind = "all" if pressing == one_way else "some" if pressing else "none"
            if one_way > 1:
                seen[kind] = seen.get(kind, 0) + 1
            if any(both for _, both in rows) and one_way and pressing:
                seen["both"] = seen.get("both", 0) + 1
        self.assertTrue(all(("rows", many) in seen for many in range(7)))
        for kind in ("all", "some", "none", "both"):
            self.assertGreater(seen[kind], 1)

    def test_the_least_of_the_left_moves(self):
        draws = BodyDraws(329)
        for _ in range(40):
            jig, body, blow = draws.few_stops(5, 4), draws.body(), draws.blow()
            rows, move, _, _ = self.check_struck(jig, body, blow)
            left, others = Left(rows), [[Fraction(0)] * 6]
            for _ in range(8):
                told = [Fraction(0)] * 6
                for still in left.still:
                    told = plus(told, times(draws.small(), still))
                for ray in left.rays:
                    told = plus(told, times(abs(draws.small()) * draws.whole(0, 1), ray))
                if own_is_left(rows, told):
                    others.append(told)
                    # Near to the move, and left, too: the moves that are left are convex.
                    others.append(plus(times(Fraction(99, 100), six(move)), times(Fraction(1, 100), told)))
            self.check_least(body, blow, move, others)

    def test_against_each_choice_of_rows(self):
        draws = BodyDraws(330)
        for _ in range(40):
            jig, body, blow = draws.few_stops(4, 4), draws.body(), draws.blow()
            self.assertEqual(six(struck(jig, body, blow)), own_struck(own_jig_rows(jig), body, blow))

    def test_stops_all_around(self):
        """Many rows that press, let go of again, and are not independent."""
        draws = BodyDraws(331)
        ways = [triple(way) for way in ((1, 0, 0), (0, 1, 0), (0, 0, 1), (-1, 0, 0), (0, -1, 0), (0, 0, -1), (1, 1, 1))]
        for _ in range(120):
            if draws.random.randrange(2):
                jig = tuple(("stop", draws.plain(), draws.pick(ways)) for _ in range(6))
            else:
                # All rows in one plane, or along one direction: these are never independent.
                way = draws.pick((0, 1))
                jig = tuple(("stop", triple((draws.whole(-2, 2), draws.whole(-2, 2) * way, 0)), Z) for _ in range(6))
            if draws.random.randrange(3) == 0:
                jig += (("pin", draws.plain(), draws.pick(ways)),)
            self.check_struck(jig, draws.body(), draws.blow())

    def test_without_rows_one_way(self):
        draws = BodyDraws(332)
        for _ in range(25):
            jig = draws.jig(6, 24, ("pin", "cup", "pin"))
            body, blow = draws.body(), draws.blow()
            rows, move, _, _ = self.check_struck(jig, body, blow)
            system = own_back(own_system([push for push, _ in rows]))
            self.assertEqual(move, kept_blow(body, system, blow))

    def test_blows_that_take_it_off_or_press_it_on(self):
        draws = BodyDraws(333)
        for _ in range(25):
            body, point, way = draws.body(), draws.point(), draws.way()
            lid, push = (("stop", point, way),), line_at(point, way)
            self.assertEqual(struck(lid, body, push), blown(body, push))
            self.assertEqual(stop_blows(lid, body, push), ((0, 1),))
            against = screw(times(-3, six(push)))
            self.assertEqual(struck(lid, body, against), NOUGHT_SCREW)
            self.assertEqual(stop_blows(lid, body, against), ((3, 1),))
            twice = lid + lid
            self.assertEqual(struck(twice, body, against), NOUGHT_SCREW)
            self.assertEqual(sum(number(weight) for weight in stop_blows(twice, body, against)), 3)
            blow = draws.blow()
            self.assertEqual(struck(twice, body, blow), struck(lid, body, blow))

    def test_held_bodies_do_not_move(self):
        firm = (("cup", NOUGHT), ("stop", Y, Z), ("stop", Z, X), ("stop", X, Y),
                ("stop", triple((Fraction(1, 2), Fraction(1, 2), -1)), triple((1, -1, 0))))
        draws = BodyDraws(334)
        for _ in range(15):
            blow = draws.blow()
            _, move, _, _ = self.check_struck(firm, draws.body(), blow)
            self.assertEqual(move, NOUGHT_SCREW)

    def test_told_ones(self):
        lid, knock = (("stop", NOUGHT, DOWN),), line_at(X, Z)
        self.assertEqual(struck(lid, CROSS, knock), screw((0, Fraction(-1, 2), 0, 0, 0, 0)))
        self.assertEqual(stop_blows(lid, CROSS, knock), (ONE,))
        self.assertEqual(struck(lid, CROSS, line_at(X, DOWN)), screw((0, Fraction(1, 2), 0, 0, 0, Fraction(-1, 4))))
        for jig in (lid, lid * 6):
            self.assertEqual(struck(jig, CROSS, NOUGHT_SCREW), NOUGHT_SCREW)

    def test_placed(self):
        draws = BodyDraws(335)
        for _ in range(20):
            jig, body, blow, placing = draws.few_stops(), draws.body(), draws.blow(), draws.placing()
            moved = tuple((triple(own_placed(placing, point)), mass) for point, mass in body)
            led = own_led(placing, blow)
            self.assertEqual(
                struck(own_placed_jig(jig, placing), moved, led), own_led(placing, struck(jig, body, blow)))

    def test_large_numbers_in_time(self):
        draws, far = BodyDraws(336), 10 ** 20
        for _ in range(3):
            def value():
                return Fraction(draws.whole(-far, far), draws.whole(1, far))
            body = tuple((triple([value() for _ in range(3)]), pair(abs(value()) + 1)) for _ in range(8))
            jig = tuple(("stop", triple([value() for _ in range(3)]), triple([value() for _ in range(3)]))
                        for _ in range(6)) + (("cup", triple([value() for _ in range(3)])),)
            blow, began = screw([value() for _ in range(6)]), time.process_time()
            struck(jig[:6], body, blow)
            self.assertLess(time.process_time() - began, 4)
            self.check_struck(jig[:6], body, blow)
            self.check_struck(jig, body, blow)
            self.assertEqual(own_momentum(body, blown(body, blow)), six(blow))


def wrong_masses():
    """What is no pair of a point and a mass."""
    found = list(ANYTHING) + [(X,), (X, ONE, ONE), [X, ONE], (ONE, X), (X, (0, 1)), (X, (-1, 2)), (X, 1), X, {X: ONE}]
    found += [(value, ONE) for value in WRONG_TRIPLES] + [(X, value) for value in WRONG_FRACTIONS]
    return found


def wrong_bodies():
    """Pairs of what is no body and the index that is kept."""
    a, b, c = (X, ONE), (Y, ONE), (Z, ONE)
    found = [(value, 0 if isinstance(value, tuple) and len(value) > 2 else None) for value in ANYTHING]
    found += [((), None), ((a,), None), ((a, b), None), ((a, None), None), ([a, b, c], None), ({a: 1}, None), (X, 0)]
    found += [((a, b) + (value,) + last, 2) for value in wrong_masses() for last in ((), (c, None))]
    found += [((value, b, c), 0) for value in wrong_masses()]
    found += [((a, b, c) * 3, 8), ((a,) * 9, 8), ((a, b, c, a, b, c, a, b, None), 8), ((a,) * 7 + (None, None), 7)]
    found += [((a,) * many, many) for many in range(3, 9)]
    lines = [tuple((triple((at, 2 * at, 1)), (at + 1, 1)) for at in range(many)) for many in range(3, 9)]
    found += [(line, len(line)) for line in lines]
    found += [(line[:-1] + (None,), len(line) - 1) for line in lines]
    found += [((a, b, a, b), 4), ((a, a, b), 3), ((a, b) * 4, 8), ((a, b) * 5, 8), (((X, (3, 1)), b, a), 3)]
    return found


WRONG_BODIES = wrong_bodies()


class Refusals(Case):
    bodies = indexed(WRONG_BODIES, InvalidBody)
    screws = given(WRONG_SCREWS, InvalidScrew)

    def test_bodies(self):
        check_refusals(self, middle, {"body": CROSS}, {"body": self.bodies})

    def test_beside_a_body(self):
        for function, name in ((momentum, "move"), (energy, "move"), (blown, "blow")):
            check_refusals(self, function, {"body": CROSS, name: (X, Y)}, {
                "body": self.bodies[::9], name: self.screws,
            })

    def test_kept_blow(self):
        systems = given(WRONG_SYSTEMS, InvalidSystem)
        draws = BodyDraws(337)
        for _ in range(8):
            system = draws.system()
            if system:
                systems += given(list(wrong_bases(system)), InvalidSystem)
        check_refusals(self, kept_blow, {"body": CROSS, "system": ((X, NOUGHT),), "blow": (X, Y)}, {
            "body": self.bodies[::40], "system": systems, "blow": self.screws,
        })

    def test_struck(self):
        for function in (struck, stop_blows):
            check_refusals(self, function, {"jig": GOOD_TOUCHES_FEW, "body": CROSS, "blow": (X, Y)}, {
                "jig": indexed(WRONG_JIGS[::25], InvalidJig), "body": self.bodies[::25], "blow": self.screws,
            })

    def test_too_many_rows_last(self):
        stop, groove, rest = GOOD_TOUCHES[0], GOOD_TOUCHES[2], GOOD_TOUCHES[5]
        for jig, many in [
            ((stop,) * 7, 7), ((stop,) * 12, 12), ((groove,) * 4, 8), ((rest, stop), 7), ((rest,) * 4, 24),
            ((("cup", X), rest, stop, ("pin", X, Y)), 7), ((groove,) * 12, 24),
        ]:
            for function in (struck, stop_blows):
                refused_many(self, function, jig, many)
                for wrong, body, blow, error, kept in [
                    (None, None, None, InvalidJig, {"index": None}), (jig, (), None, InvalidBody, {"index": None}),
                    (jig, CROSS, X, InvalidScrew, {"given": X}), (jig + (stop,) * 25, CROSS, X, InvalidJig, {}),
                ]:
                    refused(self, error, lambda: function(wrong, body, blow), kept)
        for jig in ((stop,) * 6, (rest,), (rest,) + (("cup", X), ("cup", Y), ("pin", X, Y)), (groove,) * 3):
            self.assertTrue(own_is_left(own_jig_rows(jig), struck(jig, CROSS, (X, Y))))


GOOD_TOUCHES_FEW = (GOOD_TOUCHES[0], GOOD_TOUCHES[4])


def refused_many(case, function, jig, many):
    with case.assertRaises(TooMany) as held:
        function(jig, CROSS, (X, Y))
    case.assertEqual(held.exception.given, many)
    case.assertIs(type(held.exception.given), int)


if __name__ == "__main__":
    unittest.main()
