"""Systems of screws ([15] to [17])."""
import unittest
from fractions import Fraction

from sevenpins.errors import InvalidDirection, InvalidPlacing, InvalidScrew, InvalidScrews, InvalidSystem, InvalidTriple
from sevenpins.screws import is_screw
from sevenpins.systems import (
    back_of, is_in, is_system, joined_systems, meeting, order_of, placed_system, resting_at, screws_in, shares_of,
    slides_in, system_of,
)
from sevenpins.turnings import placed, placed_screw, turned
from tests.helpers import (
    NOUGHT, WRONG_DIRECTIONS, WRONG_SCREWS, WRONG_SCREW_TUPLES, WRONG_SYSTEMS, WRONG_TRIPLES, X, Y, Z, Draws,
    assert_fraction, assert_screw, check_refusals, given, indexed, inner, number, outer, own_back, own_is_in,
    own_moment, own_power, own_rank, own_stairs, own_system, screw, six, times, triple, vector, weighed, wrong_bases,
)
from tests.test_turnings import REST, WRONG_PLACINGS

NOUGHT_SCREW = (NOUGHT, NOUGHT)
ALL = own_system([(X, NOUGHT), (Y, NOUGHT), (Z, NOUGHT), (NOUGHT, X), (NOUGHT, Y), (NOUGHT, Z)])


def line(point, direction):
    return screw(list(direction) + outer(list(point), list(direction)))


def told_systems():
    """Systems with something to see about them, each with its order."""
    o, x, y, z = (0, 0, 0), (1, 0, 0), (0, 1, 0), (0, 0, 1)
    return [
        ((), 0), ((NOUGHT_SCREW,), 0), ((line(o, x),), 1), ((screw([0, 0, 0, 0, 2, 3]),), 1),
        ((line(o, z), line(x, z)), 2), ((line(o, z), line(x, z), line(y, z)), 3),
        ((line(o, x), line(o, y), line(o, z)), 3), ((line(o, x), line(x, y), line(y, x)), 3),
        ((line(o, x), line(z, y)), 2), ((line(o, x), screw([1, 0, 0, 5, 0, 0])), 2),
        ((line(o, x), line(o, y), line(o, z), line(x, z)), 4),
        ((line(z, x), line(z, y), line(z, z), line(x, z), line(y, x)), 5),
        (ALL, 6), ((line(x, y), line(x, y), line(x, (0, -3, 0))), 1),
    ]


class Case(unittest.TestCase):
    def assert_base(self, told):
        self.assertIs(type(told), tuple)
        for part in told:
            assert_screw(self, part)
        rows = [six(part) for part in told]
        self.assertEqual(rows, own_stairs(rows))

    def drawn(self, seed, count, most=6):
        draws = Draws(seed)
        orders = set()
        for at in range(count):
            system = draws.system(most) if at % 5 else own_system(draws.pick(told_systems())[0])
            orders.add(len(system))
            yield draws, system
        self.assertEqual(orders, set(range(7)))


class Bases(Case):
    def test_is_system(self):
        for screws, order in told_systems():
            base = own_system(screws)
            self.assertEqual(len(base), order)
            self.assertIs(is_system(base), True)
            self.assertIs(is_system(value=base), True)
        for value in WRONG_SYSTEMS:
            self.assertIs(is_system(value), False, value)
        self.assertIs(is_system(()), True)

    def test_is_system_drawn(self):
        for draws, system in self.drawn(51, 150):
            self.assertIs(is_system(system), True)
            if system:
                for value in wrong_bases(system):
                    self.assertIs(is_system(value), False, value)
            screws = draws.screws(draws.whole(1, 3))
            self.assertIs(is_system(screws), own_system(screws) == screws)

    def test_system_of(self):
        for screws, order in told_systems():
            self.assertEqual(system_of(screws), own_system(screws))
            self.assertEqual(len(system_of(screws=screws)), order)
        draws = Draws(52)
        for _ in range(200):
            screws = draws.screws(draws.whole(0, 9))
            base = system_of(screws)
            self.assert_base(base)
            self.assertEqual(base, own_system(screws))
        many = draws.screws(60)
        self.assertEqual(system_of(many), own_system(many))

    def test_one_base_however_it_is_told(self):
        for draws, system in self.drawn(53, 200):
            self.assertEqual(system_of(system), system)
            told = [screw(times(draws.other_than_nought(), six(part))) for part in reversed(system)]
            if told:
                for _ in range(3):
                    told.append(screw(weighed(told, [draws.number() for _ in told])))
                told[0] = screw(weighed(told, [1] + [draws.number() for _ in system[1:]]))
            self.assertEqual(system_of(tuple(told)), system)
            self.assertEqual(system_of(tuple(told) + (NOUGHT_SCREW,)), system)

    def test_order_of(self):
        for _, system in self.drawn(54, 100):
            found = order_of(system)
            self.assertIs(type(found), int)
            self.assertEqual(found, len(system))
            self.assertEqual(order_of(system=system), found)


class Shares(Case):
    def test_of_the_systems_screws(self):
        for draws, system in self.drawn(55, 200):
            weights = [draws.number() for _ in system]
            told = screw(weighed(system, weights))
            shares = shares_of(system, told)
            self.assertIs(type(shares), tuple)
            for share in shares:
                assert_fraction(self, share)
            self.assertEqual([number(share) for share in shares], weights)
            self.assertEqual(shares_of(screw=told, system=system), shares)
            self.assertIs(is_in(system, told), True)
            self.assertIs(is_in(screw=told, system=system), True)
            self.assertEqual(shares_of(system, NOUGHT_SCREW), ((0, 1),) * len(system))
            self.assertIs(is_in(system, NOUGHT_SCREW), True)

    def test_of_any_screws(self):
        outside = 0
        for draws, system in self.drawn(56, 200):
            told = draws.plain_screw()
            inside = own_is_in(system, told)
            outside += not inside
            self.assertIs(is_in(system, told), inside)
            shares = shares_of(system, told)
            if inside:
                self.assertEqual(weighed(system, [number(share) for share in shares]), six(told))
            else:
                self.assertIs(shares, None)
        self.assertGreater(outside, 50)

    def test_near_ones(self):
        for draws, system in self.drawn(57, 100):
            for at in range(6):
                values = weighed(system, [draws.number() for _ in system])
                values[at] += draws.pick((1, Fraction(1, 10 ** 30), Fraction(-1, 3)))
                told = screw(values)
                self.assertIs(is_in(system, told), own_is_in(system, told))
                self.assertEqual(shares_of(system, told) is None, not own_is_in(system, told))


class Both(Case):
    def pairs(self, seed, count):
        for draws, system in self.drawn(seed, count):
            other = draws.system()
            if draws.whole(0, 2) == 0:
                # Screws of the one stand in the other one, too.
                other = own_system(tuple(draws.screw_in(system) for _ in system[:2]) + other[:3])
            yield draws, system, other

    def test_joined(self):
        for _, system, other in self.pairs(58, 200):
            found = joined_systems(system, other)
            self.assert_base(found)
            self.assertEqual(found, own_system(system + other))
            self.assertEqual(joined_systems(other=system, system=other), found)

    def test_meeting(self):
        met = 0
        for _, system, other in self.pairs(59, 200):
            found = meeting(system, other)
            self.assert_base(found)
            for part in found:
                self.assertTrue(own_is_in(system, part))
                self.assertTrue(own_is_in(other, part))
            # No more screws are in both: the orders add up.
            self.assertEqual(len(found), len(system) + len(other) - len(own_system(system + other)))
            self.assertEqual(len(meeting(system, other)) + len(joined_systems(system, other)), len(system) + len(other))
            self.assertEqual(meeting(other=system, system=other), found)
            met += bool(found)
        self.assertGreater(met, 50)

    def test_with_itself_and_the_ends(self):
        for _, system in self.drawn(60, 60):
            self.assertEqual(meeting(system, system), system)
            self.assertEqual(joined_systems(system, system), system)
            self.assertEqual(meeting(system, ALL), system)
            self.assertEqual(meeting(system, ()), ())
            self.assertEqual(joined_systems(system, ()), system)
            self.assertEqual(joined_systems(ALL, system), ALL)

    def test_back(self):
        for draws, system in self.drawn(61, 200):
            found = back_of(system)
            self.assert_base(found)
            self.assertEqual(len(found), 6 - len(system))
            for told in found:
                for part in system:
                    self.assertEqual(own_power(told, part), 0)
            self.assertEqual(found, own_back(system))
            self.assertEqual(back_of(system=found), system)
            told = draws.plain_screw()
            self.assertEqual(is_in(found, told), all(own_power(told, part) == 0 for part in system))
        self.assertEqual(back_of(()), ALL)
        self.assertEqual(back_of(ALL), ())

    def test_backs_of_joined_and_meeting(self):
        for _, system, other in self.pairs(62, 150):
            self.assertEqual(back_of(joined_systems(system, other)), meeting(back_of(system), back_of(other)))
            self.assertEqual(back_of(meeting(system, other)), joined_systems(back_of(system), back_of(other)))


class Parts(Case):
    def test_slides(self):
        some = 0
        for draws, system in self.drawn(63, 200):
            found = slides_in(system)
            self.assert_base(found)
            for part in found:
                self.assertEqual(part[0], NOUGHT)
                self.assertTrue(own_is_in(system, part))
            self.assertEqual(len(found), len(system) - own_rank([six(part)[:3] for part in system]))
            self.assertEqual(slides_in(system=system), found)
            some += bool(found)
        self.assertGreater(some, 50)
        self.assertEqual(slides_in(ALL), ALL[3:])
        self.assertEqual(slides_in(((X, NOUGHT), (NOUGHT, X))), ((NOUGHT, X),))

    def test_resting(self):
        some = 0
        for draws, system in self.drawn(64, 200):
            point = draws.triple() if draws.whole(0, 3) == 0 else triple([draws.whole(-1, 1) for _ in range(3)])
            found = resting_at(system, point)
            self.assert_base(found)
            for part in found:
                self.assertTrue(own_is_in(system, part))
                self.assertEqual(own_moment(part, point), [0, 0, 0])
            self.assertEqual(len(found), len(system) - own_rank([own_moment(part, point) for part in system]))
            self.assertEqual(resting_at(point=point, system=system), found)
            some += bool(found)
        self.assertGreater(some, 30)
        at = (2, -1, 3)
        for axis in ((1, 0, 0), (1, 2, 3)):
            self.assertEqual(resting_at(own_system([line(at, axis)]), triple(at)), own_system([line(at, axis)]))
        turns = [line(at, axis) for axis in ((1, 0, 0), (0, 1, 0), (0, 0, 1))]
        self.assertEqual(resting_at(ALL, triple(at)), own_system(turns))

    def test_in_a_plane(self):
        some = 0
        for draws, system in self.drawn(65, 200):
            point = draws.triple() if draws.whole(0, 3) == 0 else triple([draws.whole(-1, 1) for _ in range(3)])
            normal = draws.pick((X, Y, Z, triple((1, -1, 0)), draws.direction()))
            n = vector(normal)
            found = screws_in(system, point, normal)
            self.assert_base(found)
            for part in found:
                self.assertTrue(own_is_in(system, part))
                self.assertEqual(inner(six(part)[:3], n), 0)
                self.assertEqual(outer(own_moment(part, point), n), [0, 0, 0])
            bars = [[inner(six(part)[:3], n)] + outer(own_moment(part, point), n) for part in system]
            self.assertEqual(len(found), len(system) - own_rank(bars))
            self.assertEqual(screws_in(direction=normal, point=point, system=system), found)
            self.assertEqual(screws_in(system, point, triple(times(Fraction(-2, 3), n))), found)
            some += bool(found)
        self.assertGreater(some, 30)

    def test_told_screws_in_a_plane(self):
        at, up = (1, 2, 3), (0, 0, 1)
        turns = [line(at, (1, 0, 0)), line(at, (0, 1, 0)), line((5, 7, 3), (2, -3, 0))]
        slide = screw([0, 0, 0, 0, 0, 1])
        self.assertEqual(screws_in(ALL, triple(at), Z), own_system(turns + [slide]))
        self.assertEqual(screws_in(own_system(turns), triple(at), triple((0, 0, -4))), own_system(turns))
        for barred in (line(at, up), screw([0, 0, 0, 1, 0, 0]), line((0, 0, 0), (1, 0, 0)), screw([1, 0, 0, 1, 3, -2])):
            self.assertEqual(screws_in(own_system([barred]), triple(at), Z), ())
        parted = own_system([slide, line((0, 0, 0), (1, 0, 0))])
        self.assertEqual(screws_in(parted, triple(at), Z), (slide,))


class Places(Case):
    def test_placed(self):
        for draws, system in self.drawn(66, 150):
            placing = draws.placing()
            found = placed_system(placing, system)
            self.assert_base(found)
            self.assertEqual(len(found), len(system))
            self.assertEqual(found, own_system([placed_screw(placing, part) for part in system]))
            self.assertEqual(placed_system(system=system, placing=placing), found)
            told = draws.screw_in(system)
            self.assertTrue(own_is_in(found, placed_screw(placing, told)))
            self.assertEqual(placed_system(REST, system), system)

    def test_all_goes_along(self):
        for draws, system in self.drawn(67, 80):
            placing, other = draws.placing(), draws.system()
            point, normal = triple([draws.whole(-1, 1) for _ in range(3)]), draws.pick((X, Y, Z))

            def led(told):
                return placed_system(placing, told)

            self.assertEqual(led(back_of(system)), back_of(led(system)))
            self.assertEqual(led(meeting(system, other)), meeting(led(system), led(other)))
            self.assertEqual(led(joined_systems(system, other)), joined_systems(led(system), led(other)))
            self.assertEqual(led(slides_in(system)), slides_in(led(system)))
            self.assertEqual(led(resting_at(system, point)), resting_at(led(system), placed(placing, point)))
            there = placed(placing, point), turned(placing[0], normal)
            self.assertEqual(led(screws_in(system, point, normal)), screws_in(led(system), *there))


class Refusals(unittest.TestCase):
    def test_system_of(self):
        wrong = indexed(WRONG_SCREW_TUPLES, InvalidScrews)
        for index in range(8):
            for value in WRONG_SCREWS:
                wrong += indexed([(((X, Y),) * index + (value, (Y, Z), None), index)], InvalidScrews)
        check_refusals(self, system_of, {"screws": ()}, {"screws": wrong})

    def test_one_system(self):
        systems = given(WRONG_SYSTEMS, InvalidSystem)
        for function in (order_of, back_of, slides_in):
            check_refusals(self, function, {"system": ()}, {"system": systems})

    def test_bases_that_are_none(self):
        draws = Draws(68)
        for _ in range(40):
            system = draws.system()
            if system:
                systems = given(wrong_bases(system), InvalidSystem)
                check_refusals(self, order_of, {"system": system}, {"system": systems})
                check_refusals(self, joined_systems, {"system": (), "other": ()}, {"system": systems, "other": systems})

    def test_two_systems(self):
        systems = given(WRONG_SYSTEMS, InvalidSystem)
        for function in (joined_systems, meeting):
            check_refusals(self, function, {"system": ALL, "other": ()}, {"system": systems, "other": systems})

    def test_beside_a_system(self):
        systems = given(WRONG_SYSTEMS, InvalidSystem)
        for function in (is_in, shares_of):
            check_refusals(self, function, {"system": ALL, "screw": NOUGHT_SCREW}, {
                "system": systems, "screw": given(WRONG_SCREWS, InvalidScrew),
            })
        points = given(WRONG_TRIPLES, InvalidTriple)
        check_refusals(self, resting_at, {"system": ALL, "point": NOUGHT}, {"system": systems, "point": points})
        check_refusals(self, screws_in, {"system": (), "point": NOUGHT, "direction": X}, {
            "system": systems, "point": points, "direction": given(WRONG_DIRECTIONS, InvalidDirection),
        })

    def test_placed_system(self):
        check_refusals(self, placed_system, {"placing": REST, "system": ()}, {
            "placing": given(WRONG_PLACINGS, InvalidPlacing), "system": given(WRONG_SYSTEMS, InvalidSystem),
        })

    def test_what_is_returned_may_be_passed(self):
        big = [
            screw([Fraction(10 ** 200 + 7 * row + at * at, 10 ** 190 + 3 ** (row + at)) for at in range(6)])
            for row in range(4)
        ]
        system = system_of(tuple(big))
        for _ in range(3):
            self.assertIs(is_system(system), True)
            self.assertEqual(back_of(back_of(system)), system)
            self.assertTrue(all(is_in(system, part) for part in big))
        self.assertTrue(all(is_screw(part) for part in meeting(system, own_system(big[:2]))))
        self.assertEqual(meeting(system, own_system(big[:2])), own_system(big[:2]))


if __name__ == "__main__":
    unittest.main()
