"""Webs of bodies and joints ([24])."""
import unittest
from fractions import Fraction

from sevenpins.errors import InvalidNumber, InvalidWeb
from sevenpins.joints import arm_moves, legs_moves
from sevenpins.webs import body_moves, freedom, is_web, moves_between, needless_links, spare_bonds
from tests.helpers import (
    ANYTHING, NOUGHT, WRONG_WHOLES, X, Y, Z, assert_base, assert_whole, check_refusals, given, indexed, minus,
    own_back, own_is_in, own_kernel, own_line, own_rank, own_system, screw, six, times, triple, vector,
)
from tests.test_joints import ORDERS, WORDS, WRONG_JOINTS, JointDraws, own_moves

TURN = ("turn", Y, Z)


class WebDraws(JointDraws):
    """Webs; most of their joints are plain ones, so that bonds are spare and links needless."""

    def joint(self, words=WORDS):
        if self.random.randrange(12) == 0:
            return super().joint(words)
        word = self.pick(words)
        point, direction = self.plain(), self.pick((X, Y, Z, triple((1, 1, 0)), triple((0, 2, -2))))
        return {
            "turn": (word, point, direction), "slide": (word, direction), "ball": (word, point),
            "screw": (word, point, direction, self.pick(((1, 1), (-1, 2), (0, 1)))), "plane": (word, direction),
            "cylinder": (word, point, direction), "fixed": (word,), "free": (word,),
        }[word]

    def link(self, bodies, words):
        first = self.whole(0, bodies)
        second = self.pick([at for at in range(bodies + 1) if at != first])
        return (first, second, self.joint(words))

    def web(self, most=10):
        bodies = self.whole(1, 5)
        words = self.pick((WORDS, ("turn",), ("ball", "slide", "turn"), ("plane", "cylinder", "screw", "free")))
        links = [self.link(bodies, words) for _ in range(self.whole(0, most))]
        if len(links) > 1 and self.random.randrange(3) == 0:
            links[-1] = links[0]
        return (bodies, tuple(links))

    def chain(self):
        """A row of bodies from the ground and back to it."""
        bodies = self.whole(1, 5)
        words = self.pick((("turn",), ("turn", "slide"), ("ball", "turn", "turn"), ("cylinder", "screw", "turn")))
        ends = [(at, (at + 1) % (bodies + 1)) for at in range(bodies + 1)]
        return (bodies, tuple(end + (self.joint(words),) for end in ends if end[0] != end[1]))


def own_bonds(web):
    """All equations of a web, a list for each link."""
    bodies, links = web
    found = []
    for first, second, joint in links:
        rows = []
        for bond in own_back(own_moves(joint)):
            row = [Fraction(0)] * 6 * bodies
            for number, sign in ((first, -1), (second, 1)):
                for at in range(6):
                    if number:
                        row[6 * number - 6 + at] += sign * six(bond)[(at + 3) % 6]
            rows.append(row)
        found.append(rows)
    return found


def flat(lists):
    return [row for rows in lists for row in rows]


def of_body(row, number):
    return row[6 * number - 6:6 * number] if number else [Fraction(0)] * 6


def drawn(seed, count):
    draws = WebDraws(seed)
    for at in range(count):
        yield draws, draws.web() if at % 3 else draws.chain()


class Webs(unittest.TestCase):
    def test_is_web(self):
        for draws, web in drawn(111, 100):
            self.assertIs(is_web(web), True)
            self.assertIs(is_web(value=web), True)
        for value, _ in WRONG_WEBS:
            self.assertIs(is_web(value), False, value)

    def test_freedom_and_spare_bonds(self):
        seen, spare = set(), set()
        for _, web in drawn(112, 120):
            rows = flat(own_bonds(web))
            rank = own_rank(rows)
            found = freedom(web)
            assert_whole(self, found)
            self.assertEqual(found, 6 * web[0] - rank)
            self.assertEqual(freedom(web=web), found)
            bonds = sum(6 - ORDERS[joint[0]] for _, _, joint in web[1])
            self.assertEqual(len(rows), bonds)
            left_out = spare_bonds(web)
            assert_whole(self, left_out)
            self.assertEqual(left_out, bonds - rank)
            self.assertEqual(found, 6 * web[0] - bonds + left_out)
            self.assertEqual(spare_bonds(web=web), left_out)
            seen.add(found)
            spare.add(left_out)
        self.assertTrue({0, 1, 2, 3, 6} <= seen)
        self.assertTrue({0, 1, 2, 3} <= spare)

    def test_spare_bonds_by_leaving_out(self):
        # One equation after the other is left out if nothing is set free by it.
        for _, web in drawn(113, 12):
            rows, left_out = flat(own_bonds(web)), 0
            rank = own_rank(rows)
            for row in list(rows):
                others = [other for other in rows if other is not row]
                if own_rank(others) == rank:
                    rows = others
                    left_out += 1
            self.assertEqual(spare_bonds(web), left_out)

    def test_moves_of_bodies(self):
        for draws, web in drawn(114, 90):
            bodies = web[0]
            moves = own_kernel(flat(own_bonds(web)), 6 * bodies)
            self.assertEqual(freedom(web), len(moves))
            for number in range(bodies + 1):
                found = body_moves(web, number)
                assert_base(self, found)
                self.assertEqual(found, own_system([screw(of_body(row, number)) for row in moves]))
            self.assertEqual(body_moves(web, 0), ())
            number, other = draws.whole(0, bodies), draws.whole(0, bodies)
            between = moves_between(web, number, other)
            assert_base(self, between)
            told = [screw(minus(of_body(row, other), of_body(row, number))) for row in moves]
            self.assertEqual(between, own_system(told))
            self.assertEqual(moves_between(web, other, number), between)
            self.assertEqual(moves_between(other=other, web=web, number=number), between)
            self.assertEqual(moves_between(web, number, number), ())
            self.assertEqual(moves_between(web, 0, other), body_moves(number=other, web=web))
            for first, second, joint in web[1]:
                for move in moves_between(web, first, second):
                    self.assertTrue(own_is_in(own_moves(joint), move))

    def test_needless_links(self):
        found_some = 0
        for _, web in drawn(115, 60):
            bodies, links = web
            lists = own_bonds(web)
            rank = own_rank(flat(lists))
            expected = []
            for index, (first, second, joint) in enumerate(links):
                others = lists[:index] + lists[index + 1:]
                needless = own_rank(flat(others)) == rank
                if needless:
                    expected.append(index)
                without = (bodies, links[:index] + links[index + 1:])
                between = moves_between(without, first, second)
                self.assertIs(all(own_is_in(own_moves(joint), move) for move in between), needless)
            found = needless_links(web)
            self.assertEqual(found, tuple(expected))
            self.assertIs(type(found), tuple)
            self.assertEqual(needless_links(web=web), found)
            found_some += 0 < len(found) < len(links)
        self.assertGreater(found_some, 8)

    def test_links_from_either_end(self):
        for draws, web in drawn(116, 40):
            bodies, links = web
            turned = tuple((second, first, joint) for first, second, joint in links)
            others = (bodies, turned[::-1])
            self.assertEqual(freedom(others), freedom(web))
            self.assertEqual(spare_bonds(others), spare_bonds(web))
            for number in range(1, bodies + 1):
                self.assertEqual(body_moves(others, number), body_moves(web, number))
            last = len(links) - 1
            self.assertEqual(tuple(last - index for index in reversed(needless_links(others))), needless_links(web))

    def test_arms_and_legs_as_webs(self):
        draws = WebDraws(117)
        for _ in range(40):
            arm = tuple(draws.joint() for _ in range(draws.whole(1, 5)))
            row = tuple((at, at + 1, joint) for at, joint in enumerate(arm))
            web = (len(arm), row)
            self.assertEqual(body_moves(web, len(arm)), arm_moves(arm))
            self.assertEqual(freedom(web), sum(ORDERS[joint[0]] for joint in arm))
            self.assertEqual(spare_bonds(web), 0)
            legs = tuple((draws.joint(),) for _ in range(draws.whole(1, 6)))
            web = (1, tuple((0, 1, leg[0]) for leg in legs))
            self.assertEqual(body_moves(web, 1), legs_moves(legs))
            self.assertEqual(freedom(web), len(legs_moves(legs)))

    def test_told_webs(self):
        for bodies in range(1, 6):
            self.assertEqual(freedom((bodies, ())), 6 * bodies)
            self.assertEqual(spare_bonds((bodies, ())), 0)
            self.assertEqual(needless_links((bodies, ())), ())
            self.assertEqual(len(body_moves((bodies, ()), bodies)), 6)
        # Three hinges spread in space hold two bodies; three along one axis leave each of them its own turn.
        hinge = (("turn", NOUGHT, Z), ("turn", X, triple((0, 3, 4))), ("turn", Y, triple((3, 0, 4))))
        spread = (2, ((0, 1, hinge[0]), (1, 2, hinge[1]), (2, 0, hinge[2])))
        self.assertEqual(freedom(spread), 0)
        two_bars = (2, ((0, 1, TURN), (1, 2, TURN), (0, 2, TURN)))
        self.assertEqual(freedom(two_bars), 2)
        self.assertEqual(spare_bonds(two_bars), 5)
        self.assertEqual(needless_links(two_bars), (0, 1, 2))
        stuck = (5, tuple((0, at, ("fixed",)) for at in range(1, 6)) + ((1, 2, TURN), (5, 3, ("free",))))
        self.assertEqual((freedom(stuck), spare_bonds(stuck), needless_links(stuck)), (0, 5, (5, 6)))
        twice = (1, ((0, 1, ("fixed",)),) * 10)
        self.assertEqual((freedom(twice), spare_bonds(twice), needless_links(twice)), (0, 54, tuple(range(10))))
        # Two bodies that slide up together: the third one, on a hinge that is told from its own end, stays behind.
        lift = (3, ((0, 1, ("slide", Z)), (2, 1, ("fixed",)), (3, 2, ("turn", X, Z))))
        self.assertEqual(body_moves(lift, 2), ((NOUGHT, Z),))
        self.assertEqual(body_moves(lift, 3), own_system([(NOUGHT, Z), own_line((1, 0, 0), (0, 0, 1))]))
        self.assertEqual(moves_between(lift, 1, 2), ())
        self.assertEqual(moves_between(lift, 0, 2), ((NOUGHT, Z),))

    def test_ten_links_and_large_numbers(self):
        draws = JointDraws(118)
        far = 10 ** 30
        for _ in range(2):
            ends = [(at, at + 1) for at in range(5)] + [(0, 5), (0, 3), (4, 1), (2, 5), (1, 3)]
            points = [triple([draws.whole(-far, far) for _ in range(3)]) for _ in range(20)]
            links = tuple(
                end + (("turn", points[at], points[at + 10]) if at % 3 else ("ball", points[at]),)
                for at, end in enumerate(ends)
            )
            web = (5, links)
            lists = own_bonds(web)
            rank = own_rank(flat(lists))
            self.assertEqual(freedom(web), 30 - rank)
            self.assertEqual(needless_links(web), tuple(
                at for at in range(10) if own_rank(flat(lists[:at] + lists[at + 1:])) == rank
            ))

    def test_directions_of_any_length(self):
        draws = WebDraws(119)
        for _ in range(20):
            bodies, links = draws.chain()
            joints = [draws.joint(("turn", "slide", "cylinder", "screw", "plane")) for _ in links]
            longer = [tuple(longer_part(joint, at) for at in range(len(joint))) for joint in joints]
            one = tuple(link[:2] + (joint,) for link, joint in zip(links, joints))
            other = tuple(link[:2] + (joint,) for link, joint in zip(links, longer))
            self.assertEqual(freedom((bodies, one)), freedom((bodies, other)))
            for number in range(bodies + 1):
                self.assertEqual(body_moves((bodies, one), number), body_moves((bodies, other), number))


def longer_part(joint, at):
    """The part of a joint, its direction five times as long and opposite."""
    place = 1 if joint[0] in ("slide", "plane") else 2
    return triple(times(-5, vector(joint[at]))) if at == place else joint[at]


LINK = (0, 1, TURN)


def wrong_links():
    """Values that are no links of a web of two bodies."""
    found = ANYTHING + [(), [0, 1, TURN], (0, 1), (0, 1, TURN, None), (0, 1, TURN) + TURN, TURN, (TURN, 0, 1)]
    found += [(0, 0, TURN), (1, 1, TURN), (2, 2, TURN), (0, 3, TURN), (3, 0, TURN), (-1, 1, TURN), (1, -1, TURN)]
    found += [(True, 2, TURN), (0, True, TURN), (False, 1, TURN), (2, False, TURN), (10 ** 30, 1, TURN)]
    found += [(value, 1, TURN) for value in WRONG_WHOLES] + [(2, value, TURN) for value in WRONG_WHOLES]
    return found + [(0, 2, value) for value in WRONG_JOINTS]


WRONG_LINKS = wrong_links()


def wrong_webs():
    found = [(value, None) for value in ANYTHING] + [((), None), ([1, ()], None), ((1,), None), ((1, (), ()), None)]
    found += [((value, (LINK,)), None) for value in WRONG_WHOLES + [0, 6, -1, 10 ** 30, True]]
    found += [((1, value), None) for value in ANYTHING if not isinstance(value, tuple)] + [((1, [LINK]), None)]
    found += [((0, (None,)), None), ((6, ()), None), ((0, ()), None), ((1, {LINK: 1}), None), (((LINK,), 1), None)]
    found += [((2, (LINK,) * place + (value,)), place) for place in (0, 9) for value in WRONG_LINKS]
    found += [((2, (LINK,) * 4 + (value, None, LINK)), 4) for value in WRONG_LINKS]
    found += [((2, (LINK,) * 10 + (value,)), 10) for value in (LINK, None, (0, 3, TURN))]
    found += [((1, (LINK, (0, 2, TURN))), 1), ((5, (LINK,) * 60), 10), ((1, LINK), 0), ((4, (LINK, (5, 1, TURN))), 1)]
    return found


WRONG_WEBS = wrong_webs()


class Refusals(unittest.TestCase):
    good = (2, (LINK, (1, 2, TURN)))

    def test_webs(self):
        webs = indexed(WRONG_WEBS, InvalidWeb)
        for function in (freedom, spare_bonds, needless_links):
            check_refusals(self, function, {"web": self.good}, {"web": webs})

    def test_numbers(self):
        webs = indexed(WRONG_WEBS[::9], InvalidWeb)
        wrong = given(WRONG_WHOLES + [-1, 3, 10 ** 30, True, False, -10 ** 30], InvalidNumber)
        check_refusals(self, body_moves, {"web": self.good, "number": 1}, {"web": webs, "number": wrong})
        good = {"web": self.good, "number": 1, "other": 2}
        check_refusals(self, moves_between, good, {"web": webs, "number": wrong, "other": wrong})
        for number in (-1, 3, None):
            self.assertRaises(InvalidNumber, lambda: moves_between(self.good, number, number))
        for bodies in range(1, 6):
            self.assertRaises(InvalidNumber, lambda: body_moves((bodies, ()), bodies + 1))


if __name__ == "__main__":
    unittest.main()
