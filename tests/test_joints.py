"""Joints, arms and legs ([22], [23])."""
import unittest
from fractions import Fraction

from sevenpins.errors import InvalidArm, InvalidJoint, InvalidLegs, InvalidScrew
from sevenpins.joints import (
    arm_bears, arm_moves, barring_push, bears_of, idle_order, is_joint, legs_bears, legs_moves, moves_of, rates_for,
)
from tests.helpers import (
    ANYTHING, NOUGHT, WRONG_DIRECTIONS, WRONG_FRACTIONS, WRONG_SCREWS, WRONG_TRIPLES, X, Y, Z, Draws, assert_base,
    assert_fraction, assert_screw, assert_whole, check_refusals, given, indexed, number, outer, own_back, own_is_in,
    own_line, own_meeting, own_moment, own_power, own_system, plus, screw, six, times, triple, vector, weighed,
)

WORDS = ("turn", "slide", "screw", "cylinder", "ball", "plane", "fixed", "free")
ORDERS = {"turn": 1, "slide": 1, "screw": 1, "cylinder": 2, "ball": 3, "plane": 3, "fixed": 0, "free": 6}
KINDS = {
    "turn": "pd", "slide": "d", "screw": "pdf", "cylinder": "pd", "ball": "p", "plane": "d", "fixed": "", "free": "",
}
HALF = (1, 2)
GOOD = {
    "turn": ("turn", Y, Z), "slide": ("slide", Z), "screw": ("screw", Y, Z, HALF), "cylinder": ("cylinder", Y, Z),
    "ball": ("ball", Y), "plane": ("plane", Z), "fixed": ("fixed",), "free": ("free",),
}
EACH_AXIS = ((1, 0, 0), (0, 1, 0), (0, 0, 1))


def wrong_joints():
    found = list(ANYTHING)
    found += ["turn", ["turn", Y, Z], ("hinge", Y, Z), ("Turn", Y, Z), ("turn ", Y, Z), (b"turn", Y, Z), ((), Y, Z)]
    found += [(["turn"], Y, Z), (("turn",), Y, Z), (None, Y, Z), ({}, Y, Z), (0, Y, Z), ("", Y), ("stop", Y, Z), Z]
    found += [("turn", Z, Y, HALF), ("screw", Y, Z), ("slide", Y, Z), ("slide",), ("ball", Y, Z), ("ball",)]
    found.append(("free", Y))
    for word, good in GOOD.items():
        found += [good + (good[-1],), good + (None,), list(good), good[1:], (good,), ("pin",) + good[1:]]
        if len(good) > 1:
            found += [good[:-1], (good[0], good[1:]), good[:1]]
        for place, kind in enumerate(KINDS[word], 1):
            wrong = {"p": WRONG_TRIPLES, "d": WRONG_DIRECTIONS, "f": WRONG_FRACTIONS}[kind]
            found += [good[:place] + (value,) + good[place + 1:] for value in wrong]
    return found


WRONG_JOINTS = wrong_joints()


class JointDraws(Draws):
    """Joints, arms, legs; half of them with small numbers, so that arms are idle and legs leave something."""

    def triple(self):
        return self.plain() if self.random.randrange(2) else super().triple()

    def plain(self):
        return triple([self.whole(-1, 1) for _ in range(3)])

    def direction(self):
        found = self.triple()
        return found if any(vector(found)) else triple(times(self.other_than_nought(), (0, 1, 0)))

    def joint(self, words=WORDS):
        word = self.pick(words)
        draw = {"p": self.triple, "d": self.direction, "f": self.fraction}
        return (word,) + tuple(draw[kind]() for kind in KINDS[word])

    def arm(self, most=8, words=WORDS):
        joints = [self.joint(words) for _ in range(self.whole(1, most))]
        if len(joints) > 1 and self.random.randrange(3) == 0:
            joints[-1] = joints[0]
        return tuple(joints)

    def narrow_arm(self, most=4):
        """An arm whose hand has few moves."""
        return self.arm(most, ("turn", "turn", "slide", "screw", "fixed", "cylinder"))

    def legs(self):
        arms = [self.arm(3) if self.random.randrange(2) else self.narrow_arm() for _ in range(self.whole(1, 6))]
        if len(arms) > 1 and self.random.randrange(3) == 0:
            arms[-1] = arms[0]
        return tuple(arms)


def own_screws(joint):
    """Screws that make the moves of a joint, read off [22]."""
    word, parts = joint[0], joint[1:]
    if word == "turn":
        return [own_line(vector(parts[0]), vector(parts[1]))]
    if word == "slide":
        return [(NOUGHT, parts[0])]
    if word == "screw":
        d = vector(parts[1])
        return [screw(d + plus(outer(vector(parts[0]), d), times(number(parts[2]), d)))]
    if word == "cylinder":
        return [own_line(vector(parts[0]), vector(parts[1])), (NOUGHT, parts[1])]
    if word == "ball":
        return [own_line(vector(parts[0]), axis) for axis in EACH_AXIS]
    if word == "plane":
        d = vector(parts[0])
        across = [outer(d, axis) for axis in EACH_AXIS]
        return [own_line((0, 0, 0), d)] + [screw([0, 0, 0] + slide) for slide in across]
    if word == "fixed":
        return []
    return [screw([int(at == place) for at in range(6)]) for place in range(6)]


def own_moves(joint):
    return own_system(own_screws(joint))


def own_hand(arm):
    return own_system([told for joint in arm for told in own_screws(joint)])


class Joints(unittest.TestCase):
    def test_is_joint(self):
        for good in GOOD.values():
            self.assertIs(is_joint(good), True)
            self.assertIs(is_joint(value=good), True)
        draws = JointDraws(101)
        for _ in range(200):
            self.assertIs(is_joint(draws.joint()), True)
        for value in WRONG_JOINTS:
            self.assertIs(is_joint(value), False, value)

    def test_moves_and_bears(self):
        draws = JointDraws(102)
        for at in range(400):
            joint = draws.joint() if at >= 8 else GOOD[WORDS[at]]
            moves, bears = moves_of(joint), bears_of(joint=joint)
            assert_base(self, moves)
            assert_base(self, bears)
            self.assertEqual(moves, own_moves(joint))
            self.assertEqual(moves_of(joint=joint), moves)
            self.assertEqual(len(moves), ORDERS[joint[0]])
            self.assertEqual(bears, own_back(moves))
            self.assertEqual(bears_of(joint), bears)

    def test_what_joints_let(self):
        # By hand, of what the words say: a point of the axis stays, slides go along or across.
        point, direction = triple((1, 2, 3)), triple((0, 3, 4))
        for told in moves_of(("ball", point)):
            self.assertEqual(own_moment(told, point), [0, 0, 0])
        slide, turn = (NOUGHT, direction), own_line((1, 2, 3), (0, 3, 4))
        self.assertEqual(moves_of(("cylinder", point, direction)), own_system([slide, turn]))
        self.assertEqual(moves_of(("turn", point, direction)), own_system([turn]))
        self.assertEqual(moves_of(("slide", direction)), own_system([slide]))
        pitched = screw(plus(six(turn), times(Fraction(-7, 2), six(slide))))
        self.assertEqual(moves_of(("screw", point, direction, (-7, 2))), own_system([pitched]))
        plane = moves_of(("plane", direction))
        self.assertTrue(own_is_in(plane, turn))
        self.assertTrue(own_is_in(plane, screw([0, 0, 0, 1, 4, -3])))
        self.assertFalse(own_is_in(plane, slide))
        self.assertFalse(own_is_in(plane, own_line((0, 0, 0), (0, 4, -3))))
        self.assertEqual(moves_of(("fixed",)), ())
        self.assertEqual(bears_of(("free",)), ())
        self.assertEqual(moves_of(("free",)), bears_of(("fixed",)))

    def test_directions_of_any_length(self):
        draws = JointDraws(103)
        for _ in range(100):
            joint = draws.joint()
            factor = draws.other_than_nought()
            longer = tuple(
                triple(times(factor, vector(part))) if kind == "d" else part
                for kind, part in zip(" " + KINDS[joint[0]], joint)
            )
            self.assertEqual(moves_of(longer), moves_of(joint))


class Arms(unittest.TestCase):
    def test_moves_bears_and_idle_order(self):
        draws = JointDraws(104)
        orders, idle = set(), set()
        for at in range(300):
            arm = draws.arm() if at % 2 else draws.narrow_arm(8)
            moves, bears = arm_moves(arm), arm_bears(arm)
            self.assertEqual(moves, own_hand(arm))
            assert_base(self, bears)
            borne = own_back(())
            for joint in arm:
                borne = own_meeting(borne, own_back(own_moves(joint)))
            self.assertEqual(bears, borne)
            found = idle_order(arm)
            assert_whole(self, found)
            self.assertEqual(found, sum(ORDERS[joint[0]] for joint in arm) - len(moves))
            self.assertEqual((arm_moves(arm=arm), arm_bears(arm=arm), idle_order(arm=arm)), (moves, bears, found))
            self.assertEqual(arm_moves(arm[::-1]), moves)
            orders.add(len(moves))
            idle.add(found)
        self.assertEqual(orders, set(range(7)))
        self.assertTrue(set(range(5)) <= idle)

    def test_told_arms(self):
        scara = (("turn", NOUGHT, Z), ("turn", X, Z), ("turn", Y, Z), ("slide", triple((0, 0, -2))))
        self.assertEqual(len(arm_moves(scara)), 4)
        self.assertEqual(idle_order(scara), 0)
        self.assertEqual(idle_order(scara + scara), 4)
        self.assertEqual(arm_bears(scara), own_system([(NOUGHT, X), (NOUGHT, Y)]))
        self.assertEqual(arm_moves((("fixed",),)), ())
        self.assertEqual(idle_order((("free",),) * 8), 42)
        self.assertEqual(rates_for((("fixed",),) * 8, (NOUGHT, NOUGHT)), ((),) * 8)

    def check_rates(self, arm, move):
        rates, barring = rates_for(arm, move), barring_push(arm, move)
        if not own_is_in(own_hand(arm), move):
            self.assertIsNone(rates)
            assert_screw(self, barring)
            self.assertNotEqual(own_power(barring, move), 0)
            for joint in arm:
                for told in own_screws(joint):
                    self.assertEqual(own_power(barring, told), 0)
            return False
        self.assertIsNone(barring)
        self.assertIs(type(rates), tuple)
        self.assertEqual(len(rates), len(arm))
        total = [Fraction(0)] * 6
        for joint, shares in zip(arm, rates):
            self.assertIs(type(shares), tuple)
            self.assertEqual(len(shares), ORDERS[joint[0]])
            for share in shares:
                assert_fraction(self, share)
            total = plus(total, weighed(own_moves(joint), [number(share) for share in shares]))
        self.assertEqual(total, six(move))
        return True

    def test_rates_or_a_barring_push(self):
        draws = JointDraws(105)
        seen = {True: 0, False: 0}
        for at in range(300):
            arm = draws.arm() if at % 3 == 0 else draws.narrow_arm(6)
            for move in (draws.screw_in(own_hand(arm)), draws.screw(), draws.plain_screw()):
                seen[self.check_rates(arm, move)] += 1
            self.assertEqual(rates_for(move=move, arm=arm), rates_for(arm, move))
            self.assertEqual(barring_push(move=move, arm=arm), barring_push(arm, move))
            self.check_rates(arm, (NOUGHT, NOUGHT))
        self.assertGreater(min(seen.values()), 150)

    def test_long_arms_with_a_joint_twice(self):
        for words in (("turn",), ("slide",), ("screw",), WORDS):
            draws = JointDraws(106)
            for _ in range(20):
                arm = tuple(draws.joint(words) for _ in range(4))
                self.check_rates(arm + arm, draws.screw_in(own_hand(arm)))
                self.check_rates((arm[0],) * 8, draws.screw())
                self.assertEqual(arm_moves(arm + arm), arm_moves(arm))
                self.assertEqual(arm_bears(arm + arm), arm_bears(arm))


class Legs(unittest.TestCase):
    def test_meeting_and_joined(self):
        draws = JointDraws(107)
        orders = set()
        for _ in range(250):
            legs = draws.legs()
            moves, bears = legs_moves(legs), legs_bears(legs)
            met, borne = own_back(()), []
            for arm in legs:
                met = own_meeting(met, own_hand(arm))
                borne.extend(own_back(own_hand(arm)))
            self.assertEqual(moves, met)
            self.assertEqual(bears, own_system(borne))
            self.assertEqual((legs_moves(legs=legs), legs_bears(legs=legs)), (moves, bears))
            self.assertEqual(legs_moves(legs[::-1]), moves)
            orders.add(len(moves))
        self.assertEqual(orders, set(range(7)))

    def test_six_legs(self):
        # A platform on six legs, each with a ball at both ends: each bears the pushes along the line of both balls.
        feet = [(2, 0, 0), (1, 2, 0), (-1, 2, 0), (-2, 0, 0), (-1, -2, 0), (1, -2, 0)]
        heads = [(1, 1, 2), (1, 1, 2), (-2, 0, 2), (-2, 0, 2), (1, -1, 2), (1, -1, 2)]
        legs = tuple((("ball", triple(foot)), ("ball", triple(head))) for foot, head in zip(feet, heads))
        self.assertEqual(legs_moves(legs), ())
        self.assertEqual(len(legs_bears(legs)), 6)
        for legs_left in range(1, 6):
            self.assertEqual(len(legs_moves(legs[:legs_left])), 6 - legs_left)
            self.assertEqual(
                legs_bears(legs[:legs_left]),
                own_system([own_line(foot, [b - a for a, b in zip(foot, head)])
                            for foot, head in zip(feet[:legs_left], heads)]),
            )
        self.assertEqual(legs_moves(legs[:3] * 2), legs_moves(legs[:3]))


class Refusals(unittest.TestCase):
    good = ("turn", Y, Z)
    joints = given(WRONG_JOINTS, InvalidJoint)

    def wrong_arms(self):
        good = self.good
        wrong = [((), None), ([], None), ([good], None), ({good: 1}, None), (good, 0), ((good, [good]), 1)]
        wrong.append(("turn", None))
        wrong += [(value, 0 if isinstance(value, tuple) and value else None) for value in ANYTHING]
        wrong += [((good,) * place + (value, None), place) for place in (0, 3, 7) for value in WRONG_JOINTS]
        wrong += [((good,) * place + (value,), place) for place in (1, 7) for value in WRONG_JOINTS[-60:]]
        wrong += [((good,) * 8 + (last,), 8) for last in (good, None, ("free",), ("hinge",))]
        wrong += [((good,) * 60, 8), ((good,) * 5 + (None,) + (good,) * 30, 5)]
        return wrong

    def wrong_legs(self):
        arm = (self.good, ("free",))
        wrong = [((), None), ([], None), ([arm], None), ({arm: 1}, None), ((arm, [arm]), 1), (arm, 0), (self.good, 0)]
        wrong += [(value, 0 if isinstance(value, tuple) and value else None) for value in ANYTHING]
        wrong += [((arm,) * place + (told, None), place) for place in (0, 2, 5) for told, _ in self.wrong_arms()[::7]]
        wrong += [((arm,) * 6 + (last,), 6) for last in (arm, None, ())]
        wrong += [((arm,) * 60, 6), ((arm, ()), 1), ((arm, (self.good,) * 9), 1), ((arm,) * 4 + (self.good,) * 9, 4)]
        return wrong

    def test_joints(self):
        for function in (moves_of, bears_of):
            check_refusals(self, function, {"joint": self.good}, {"joint": self.joints})

    def test_arms(self):
        arms = indexed(self.wrong_arms(), InvalidArm)
        for function in (arm_moves, arm_bears, idle_order):
            check_refusals(self, function, {"arm": (self.good,)}, {"arm": arms})
        screws = given(WRONG_SCREWS, InvalidScrew)
        for function in (rates_for, barring_push):
            good = {"arm": (self.good,), "move": (X, Y)}
            check_refusals(self, function, good, {"arm": arms, "move": screws})
            # An arm that bears nothing, and one that moves nothing, are no ways past a wrong move.
            for word in ("free", "fixed"):
                check_refusals(self, function, {"arm": ((word,),), "move": (X, Y)}, {"arm": arms[::20], "move": screws})

    def test_legs(self):
        legs = indexed(self.wrong_legs(), InvalidLegs)
        for function in (legs_moves, legs_bears):
            check_refusals(self, function, {"legs": ((self.good,),)}, {"legs": legs})

    def test_as_many_as_may_be(self):
        arm = (("free",),) * 8
        self.assertEqual(len(arm_moves(arm)), 6)
        self.assertEqual(len(legs_moves((arm,) * 6)), 6)


if __name__ == "__main__":
    unittest.main()
