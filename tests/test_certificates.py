"""Certificates: of two claims the one that is so, with a paper that the checker accepts ([48])."""
import unittest
from fractions import Fraction

from sevenpins.certificates import (
    certify_above, certify_blow, certify_jig, certify_mark, certify_move, certify_pitch, certify_push, certify_range,
    certify_screw, certify_springs, certify_stand, certify_touch,
)
from sevenpins.checker import accepts
from sevenpins.errors import (
    InvalidArm, InvalidBody, InvalidCrane, InvalidFraction, InvalidGauge, InvalidIndex, InvalidJig, InvalidMark,
    InvalidScrew, InvalidSprings, InvalidStand, InvalidSystem, NoMoveFits, TooMany,
)
from sevenpins.marks import fitting_move
from tests.claims import (
    OTHER, blow_arguments, jig_arguments, mark_arguments, move_arguments, own_accepts, pitch_arguments, push_arguments,
    range_arguments, screw_arguments, spring_arguments, stand_arguments, touch_arguments,
)
from tests.helpers import (
    NOUGHT, WRONG_FRACTIONS, WRONG_SCREWS, WRONG_SYSTEMS, WRONG_WHOLES, X, Y, Z, check_refusals, given, indexed, inner,
    number, own_is_in, own_rank, pair, plus, refused, screw, six, times, triple,
)
from tests.jigs import GOOD_TOUCHES, WRONG_JIGS, Left, own_jig_rows, own_rows, worth
from tests.test_blows import CROSS, WRONG_BODIES, own_struck
from tests.test_joints import WRONG_JOINTS, own_hand
from tests.test_marks import NEAR, PIN, WRONG_GAUGES, GaugeDraws, own_range, push_of, pushes_of, wrong_spots
from tests.test_pitches import own_count, own_signs, own_slides
from tests.test_springs import FEET, SIDES, WRONG_SPRINGS, own_stiffer
from tests.test_stands import SLIDES, WRIST, WRONG_CRANES, own_determinant, own_screws_at


# What is so, by the tests' own sums.

def is_in(system, told):
    return own_is_in(system, told)


def is_all_above(system, pitch):
    _, at, below = own_signs(system, number(pitch))
    return below == 0 and at == own_slides(system)


def is_held(jig):
    rows = own_jig_rows(jig)
    return Left(rows).word(rows) == "held"


def is_on(jig, index):
    rays = Left(own_jig_rows(jig)).rays
    return not any(worth(push, ray) > 0 for push, _ in own_rows(jig[index]) for ray in rays)


def is_settled(gauge, mark):
    rows = [six(push) for push in pushes_of(gauge)]
    return own_rank(rows + [six(push_of(mark))]) == own_rank(rows)


def is_within(gauge, mark, low, high):
    ends = own_range(gauge, mark)
    return ends is not None and number(low) <= ends[0] and ends[1] <= number(high)


def is_lost(crane, index, stand):
    return own_determinant(own_screws_at(crane, index, None if stand is None else number(stand))) == 0


class Case(unittest.TestCase):
    def check(self, function, arguments, words, so):
        """The claim is the one that is so, and its paper is accepted; the other claim's is not."""
        claim, paper = told = function(*arguments)
        self.assertIs(type(told), tuple)
        self.assertIs(type(claim), tuple)
        self.assertEqual(claim, (words[0] if so else words[1],) + tuple(arguments))
        self.assertIs(accepts(claim, paper), True)
        self.assertTrue(own_accepts(claim, paper))
        other = (OTHER[claim[0]],) + claim[1:]
        self.assertIs(accepts(other, paper), False)
        self.assertIs(accepts(other, ()), False)
        names = function.__code__.co_varnames[:function.__code__.co_argcount]
        self.assertEqual(function(**dict(reversed(list(zip(names, arguments))))), told)
        return so

    def check_all(self, function, drawn, words, truth, least):
        seen = {True: 0, False: 0}
        for arguments in drawn:
            seen[self.check(function, arguments, words, truth(*arguments))] += 1
        self.assertGreater(min(seen.values()), least)


class Certified(Case):
    def test_screws(self):
        self.check_all(certify_screw, screw_arguments(601, 150), ("in", "out"), is_in, 20)

    def test_above(self):
        drawn = pitch_arguments(602, 200)
        self.check_all(certify_above, drawn, ("all above", "not all above"), is_all_above, 20)

    def test_pitches(self):
        def has(system, pitch):
            return own_count(system, number(pitch)) != "none"

        self.check_all(certify_pitch, pitch_arguments(603, 200), ("has pitch", "no pitch"), has, 20)

    def small_jigs(self, drawn):
        return [arguments for arguments in drawn if len(own_jig_rows(arguments[0])) <= 9]

    def test_jigs(self):
        drawn = self.small_jigs(jig_arguments(604, 120))
        self.check_all(certify_jig, drawn, ("held", "not held"), is_held, 15)

    def test_touches(self):
        self.check_all(certify_touch, self.small_jigs(touch_arguments(605, 150)), ("on", "off"), is_on, 15)

    def test_pushes(self):
        def is_borne(jig, push):
            return Left(own_jig_rows(jig)).does_bear(push)

        self.check_all(certify_push, self.small_jigs(push_arguments(606, 150)), ("borne", "not borne"), is_borne, 15)

    def test_large_jigs(self):
        """Of jigs that are too large for all own moves the papers tell which claim is so."""
        for function, drawn in (
            (certify_jig, jig_arguments(607, 40)), (certify_touch, touch_arguments(608, 40)),
            (certify_push, push_arguments(609, 40)),
        ):
            for arguments in drawn:
                claim, paper = function(*arguments)
                self.assertTrue(own_accepts(claim, paper))
                self.assertEqual(claim[1:], arguments)

    def test_marks(self):
        self.check_all(certify_mark, mark_arguments(610, 140), ("settled", "unsettled"), is_settled, 20)

    def test_ranges(self):
        self.check_all(certify_range, range_arguments(611, 200), ("within", "beyond"), is_within, 25)

    def test_the_ends_of_a_range(self):
        draws, tiny = GaugeDraws(612), Fraction(1, 10 ** 40)
        settled = 0
        for _ in range(60):
            gauge = draws.gauge(6, 1, True)
            mark = draws.mark(gauge)
            ends = own_range(gauge, mark)
            if ends is None:
                for low, high in ((-10 ** 30, 10 ** 30), (5, 5), (7, -7)):
                    self.check(certify_range, (gauge, mark, (low, 1), (high, 1)), ("within", "beyond"), False)
                continue
            settled += 1
            for less, more, so in [
                (0, 0, True), (1, 1, True), (-tiny, 0, False), (0, -tiny, False), (tiny, tiny, True), (-1, 5, False),
                (5, -1, False),
            ]:
                low, high = pair(ends[0] - less), pair(ends[1] + more)
                self.check(certify_range, (gauge, mark, low, high), ("within", "beyond"), so)
        self.assertGreater(settled, 15)

    def test_moves(self):
        def does(arm, move):
            return own_is_in(own_hand(arm), move)

        self.check_all(certify_move, move_arguments(613, 150), ("does", "does not"), does, 30)

    def test_stands(self):
        self.check_all(certify_stand, stand_arguments(614, 150), ("lost", "not lost"), is_lost, 30)

    def test_springs(self):
        self.check_all(certify_springs, spring_arguments(615, 100), ("stiffer", "not stiffer"), own_stiffer, 20)

    def test_blows(self):
        for arguments in blow_arguments(616, 80):
            claim, paper = certify_blow(*arguments)
            self.assertEqual(claim[:4], ("struck",) + arguments)
            self.assertIs(accepts(claim, paper), True)
            self.assertTrue(own_accepts(claim, paper))
            jig, body, blow = arguments
            rows = own_jig_rows(jig)
            if len([both for _, both in rows if not both]) <= 3:
                self.assertEqual(six(claim[4]), own_struck(rows, body, blow))
            for other in (screw(plus(six(claim[4]), six((X, Y)))), screw(times(2, six(claim[4]))), (NOUGHT, NOUGHT)):
                if other != claim[4]:
                    self.assertIs(accepts(claim[:4] + (other,), paper), False)
            self.assertEqual(certify_blow(blow=blow, body=body, jig=jig), (claim, paper))


class Told(Case):
    def test_by_hand(self):
        self.assertEqual(certify_screw((), (NOUGHT, NOUGHT)), (("in", (), (NOUGHT, NOUGHT)), ()))
        self.assertEqual(certify_above((), (1, 2)), (("all above", (), (1, 2)), ()))
        self.assertEqual(certify_pitch((), (1, 2)), (("no pitch", (), (1, 2)), ()))
        slides = ((NOUGHT, X), (NOUGHT, Y))
        self.assertEqual(certify_above(slides, (0, 1)), (("all above", slides, (0, 1)), ()))
        self.assertEqual(certify_pitch(slides, (0, 1)), (("no pitch", slides, (0, 1)), ()))
        hinge = ((Z, NOUGHT),)
        for pitch, so in (((-1, 10 ** 30), True), ((0, 1), False), ((1, 10 ** 30), False)):
            self.check(certify_above, (hinge, pitch), ("all above", "not all above"), so)
        for pitch, so in (((-1, 10 ** 30), False), ((0, 1), True), ((1, 10 ** 30), False)):
            self.check(certify_pitch, (hinge, pitch), ("has pitch", "no pitch"), so)
        self.check(certify_jig, ((("cup", X), ("cup", Y), ("cup", Z)),), ("held", "not held"), True)
        self.check(certify_jig, ((("cup", X), ("cup", Y)),), ("held", "not held"), False)
        self.check(certify_move, ((("fixed",),), (NOUGHT, NOUGHT)), ("does", "does not"), True)
        self.check(certify_move, ((("fixed",),), (NOUGHT, X)), ("does", "does not"), False)
        self.check(certify_stand, (WRIST, 1, None), ("lost", "not lost"), True)
        self.check(certify_stand, (WRIST, 1, (1, 1)), ("lost", "not lost"), False)
        self.check(certify_springs, (FEET + SIDES, FEET), ("stiffer", "not stiffer"), True)
        self.check(certify_springs, (FEET, SIDES), ("stiffer", "not stiffer"), False)

    def test_pitches_without_fractions_at_them(self):
        """No fraction tells the screws of pitch 0 here, but some have it."""
        system = ((X, X), (Y, triple((0, -2, 0))))
        self.check(certify_pitch, (system, (0, 1)), ("has pitch", "no pitch"), True)
        first, second = certify_pitch(system, (0, 1))[1]
        self.assertNotEqual(first, second)
        self.assertGreater(inner(six(first)[:3], six(second)[:3]), 0)


class Refusals(Case):
    jigs = indexed(WRONG_JIGS, InvalidJig)
    systems = given(WRONG_SYSTEMS, InvalidSystem)
    screws = given(WRONG_SCREWS, InvalidScrew)
    fractions = given(WRONG_FRACTIONS, InvalidFraction)
    gauges = indexed(WRONG_GAUGES, InvalidGauge)
    marks = given(wrong_spots(), InvalidMark)
    jig = (GOOD_TOUCHES[0], GOOD_TOUCHES[4])

    def test_systems(self):
        hinge = ((Z, NOUGHT),)
        check_refusals(self, certify_screw, {"system": hinge, "screw": (X, Y)}, {
            "system": self.systems, "screw": self.screws,
        })
        for function in (certify_above, certify_pitch):
            check_refusals(self, function, {"system": hinge, "pitch": (1, 2)}, {
                "system": self.systems, "pitch": self.fractions,
            })

    def test_jigs(self):
        check_refusals(self, certify_jig, {"jig": self.jig}, {"jig": self.jigs})
        check_refusals(self, certify_push, {"jig": self.jig, "push": (X, Y)}, {
            "jig": self.jigs[::9], "push": self.screws,
        })
        indexes = given(WRONG_WHOLES + [-1, 2, 3, 10 ** 30, True, False], InvalidIndex)
        check_refusals(self, certify_touch, {"jig": self.jig, "index": 1}, {"jig": self.jigs[::9], "index": indexes})

    def test_gauges(self):
        good = (PIN, (NOUGHT, Z, NEAR))
        check_refusals(self, certify_mark, {"gauge": good, "mark": (X, Y)}, {
            "gauge": self.gauges[::5], "mark": self.marks,
        })
        check_refusals(self, certify_range, {"gauge": good, "mark": (X, Y), "fraction": (0, 1), "other": (1, 1)}, {
            "gauge": self.gauges[::17], "mark": self.marks[::3], "fraction": self.fractions, "other": self.fractions,
        })

    def test_no_move_fits_last(self):
        wrong = ((X, Y, ((1, 1), (2, 1))), (X, Y, ((3, 1), (4, 1))))
        self.assertIsNone(fitting_move(wrong))
        for mark in ((X, Y), (X, Z), (Z, X)):
            refused(self, NoMoveFits, lambda: certify_range(wrong, mark, (0, 1), (1, 1)), {})
            refused(self, InvalidFraction, lambda: certify_range(wrong, mark, (0, 1), 1), {"given": 1})
            refused(self, InvalidFraction, lambda: certify_range(wrong, mark, 0, 1), {"given": 0})
            certify_mark(wrong, mark)
        refused(self, InvalidMark, lambda: certify_range(wrong, X, (0, 1), (1, 1)), {"given": X})

    def test_arms(self):
        arms = indexed([((), None), (None, None), ([("fixed",)], None), ((("free",),) * 9, 8)] + [
            ((("fixed",), joint), 1) for joint in WRONG_JOINTS[::3]], InvalidArm)
        check_refusals(self, certify_move, {"arm": (("ball", X),), "move": (X, Y)}, {
            "arm": arms, "move": self.screws,
        })

    def test_cranes(self):
        crane = SLIDES + (("turn", X, Z), ("screw", X, Z, (1, 2)), ("turn", Y, X))
        check_refusals(self, certify_stand, {"crane": crane, "index": 5, "stand": None}, {
            "crane": indexed(WRONG_CRANES[::5], InvalidCrane),
            "index": given(WRONG_WHOLES + [0, 1, 2, 4, 6, -1, -3, 10 ** 30, True, False], InvalidIndex),
            "stand": given([value for value in WRONG_FRACTIONS if value is not None], InvalidStand),
        })

    def test_blows(self):
        check_refusals(self, certify_blow, {"jig": self.jig, "body": CROSS, "blow": (X, Y)}, {
            "jig": self.jigs[::25], "body": indexed(WRONG_BODIES[::25], InvalidBody), "blow": self.screws,
        })
        many = (GOOD_TOUCHES[0],) * 7
        refused(self, InvalidBody, lambda: certify_blow(many, CROSS[:2], None), {"index": None})
        refused(self, InvalidScrew, lambda: certify_blow(many, CROSS, X), {"given": X})
        with self.assertRaises(TooMany) as held:
            certify_blow(many, CROSS, (X, Y))
        self.assertEqual(held.exception.given, 7)

    def test_springs(self):
        wrong = indexed(WRONG_SPRINGS[::3], InvalidSprings)
        check_refusals(self, certify_springs, {"springs": FEET, "other": SIDES}, {"springs": wrong, "other": wrong})


if __name__ == "__main__":
    unittest.main()
