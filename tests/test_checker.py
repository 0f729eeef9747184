"""The checker: claims and papers ([48])."""
import unittest
from fractions import Fraction

from sevenpins.certificates import (
    certify_above, certify_blow, certify_jig, certify_mark, certify_move, certify_pitch, certify_push, certify_range,
    certify_screw, certify_springs, certify_stand, certify_touch,
)
from sevenpins.checker import accepts
from tests.claims import (
    OTHER, WORDS, bent, blow_arguments, jig_arguments, mark_arguments, move_arguments, own_accepts, own_is_claim,
    pitch_arguments, push_arguments, range_arguments, screw_arguments, spring_arguments, stand_arguments,
    touch_arguments,
)
from tests.helpers import ANYTHING, NOUGHT, X, Y, Z, Draws, nested, pair, screw, six, times, triple
from tests.jigs import NOUGHT_SCREW, GOOD_TOUCHES, WRONG_JIGS
from tests.test_blows import CROSS
from tests.test_springs import FEET, SIDES
from tests.test_stands import SLIDES, WRIST

O, I, LESS = (0, 1), (1, 1), (-1, 1)
HINGE, UP = (Z, NOUGHT), (NOUGHT, Z)
VICE = (("stop", NOUGHT, Z), ("stop", NOUGHT, triple((0, 0, -2))))
FIRM = (("cup", X), ("cup", Y), ("cup", Z))
PINS = ((NOUGHT, Z, ((-1, 1), (1, 1))), (X, Z, ((-1, 1), (1, 1))))
DEEP = (triple((2, 0, 0)), Z)
LID = (("stop", NOUGHT, triple((0, 0, -1))),)
DOWN = (triple((0, 0, -1)), NOUGHT)

# Claims and papers by hand: those that are accepted, and those that are not.
ACCEPTED = [
    (("in", (HINGE,), (triple((0, 0, 3)), NOUGHT)), ((3, 1),)), (("in", (), NOUGHT_SCREW), ()),
    (("in", (HINGE, UP), NOUGHT_SCREW), (O, O)), (("out", (HINGE,), UP), HINGE), (("out", (), UP), HINGE),
    (("out", (HINGE,), UP), (Z, X)), (("out", (HINGE,), (Z, Z)), (triple((0, 0, -2)), NOUGHT)),
    (("all above", (HINGE,), LESS), ()), (("all above", (), I), ()), (("all above", (UP,), I), ()),
    (("not all above", (HINGE,), O), HINGE), (("not all above", (HINGE, UP), (-9, 1)), (Z, triple((0, 0, -9)))),
    (("not all above", (HINGE, UP), (-9, 1)), (Z, triple((0, 0, -10)))),
    (("has pitch", (HINGE,), O), (HINGE, (triple((0, 0, 2)), NOUGHT))), (("no pitch", (HINGE,), I), ()),
    (("has pitch", (HINGE, UP), I), ((Z, triple((0, 0, 5))), (Z, triple((0, 0, -5))))),
    (("has pitch", (HINGE, UP), I), ((Z, Z), (Z, Z))), (("no pitch", (), O), ()), (("no pitch", (UP,), O), ()),
    (("held", FIRM), (O,) * 9), (("not held", VICE), HINGE), (("not held", VICE), (NOUGHT, X)),
    (("on", VICE, 0), ((O, (1, 2)),)), (("on", VICE, 1), (((2, 1), O),)), (("off", LID, 0), (NOUGHT, DOWN[0])),
    (("on", VICE, 0), ((I, I),)),
    (("on", FIRM, 0), ((LESS,) + (O,) * 8, (O, LESS) + (O,) * 7, (O, O, LESS) + (O,) * 6)),
    (("borne", VICE, DOWN), (I, O)), (("borne", VICE, DOWN), ((3, 1), I)), (("borne", VICE, NOUGHT_SCREW), (O, O)),
    (("not borne", VICE, (X, NOUGHT)), (NOUGHT, X)), (("not borne", LID, DOWN), (NOUGHT, DOWN[0])),
    (("settled", PINS, DEEP), (LESS, (2, 1))), (("unsettled", PINS, (NOUGHT, X)), (NOUGHT, X)),
    (("within", PINS, DEEP, (-3, 1), (3, 1)), (NOUGHT_SCREW, (LESS, (2, 1)), (LESS, (2, 1)))),
    (("within", PINS, DEEP, (-4, 1), (7, 2)), ((NOUGHT, Z), (LESS, (2, 1)), (LESS, (2, 1)))),
    (("beyond", PINS, DEEP, (-3, 1), (2, 1)), (triple((0, -2, 0)), triple((0, 0, -1)))),
    (("beyond", PINS, (NOUGHT, X), (-3, 1), (2, 1)), (NOUGHT, triple((3, 0, 0)))),
    (("beyond", PINS, DEEP, I, LESS), NOUGHT_SCREW),
    (("does", (("turn", NOUGHT, Z),), HINGE), ((I,),)),
    (("does", (("fixed",), ("ball", X)), NOUGHT_SCREW), ((), (O,) * 3)),
    (("does not", (("turn", NOUGHT, Z),), UP), (Z, X)), (("does not", (("fixed",),), UP), HINGE),
    (("lost", WRIST, 1, O), (NOUGHT, Y)), (("lost", WRIST, 1, None), (NOUGHT, Y)), (("not lost", WRIST, 1, I), ()),
    (("struck", LID, CROSS, (NOUGHT, NOUGHT), NOUGHT_SCREW), (O,)),
    (("struck", LID, CROSS, (Z, NOUGHT), NOUGHT_SCREW), (I,)),
    (("struck", LID * 12, CROSS, (triple((0, 0, 12)), NOUGHT), NOUGHT_SCREW), (I,) * 12),
    (("struck", LID, CROSS, DOWN, (NOUGHT, (O, O, (-1, 4)))), (O,)),
    (("stiffer", FEET + SIDES, FEET), ()), (("not stiffer", FEET, FEET + SIDES), (Z, NOUGHT)),
    (("not stiffer", FEET, FEET + SIDES), UP),
]
REFUSED = [
    (("in", (HINGE,), (triple((0, 0, 3)), NOUGHT)), ((2, 1),)), (("in", (HINGE,), HINGE), ()), (("in", (), HINGE), ()),
    (("in", (HINGE,), HINGE), (1,)), (("in", (HINGE,), HINGE), ((True, 1),)), (("in", (HINGE,), HINGE), [I]),
    (("in", (HINGE,), HINGE), (I, O)), (("in", (HINGE,), UP), (I,)), (("in", (HINGE,), HINGE), ((2, 2),)),
    (("out", (HINGE,), UP), UP), (("out", (HINGE,), UP), NOUGHT_SCREW), (("out", (HINGE,), HINGE), UP),
    (("out", (HINGE,), UP), ()), (("out", (HINGE,), UP), (Z, Z)), (("out", (UP, HINGE), X), HINGE),
    (("all above", (HINGE,), O), ()), (("all above", (HINGE, UP), (-9, 1)), ()),
    (("all above", (HINGE,), LESS), (HINGE,)),
    (("all above", (HINGE,), LESS), None), (("all above", (HINGE,), LESS), []), (("all above", (HINGE,), LESS), False),
    (("not all above", (HINGE,), LESS), HINGE), (("not all above", (HINGE,), O), (X, NOUGHT)),
    (("not all above", (UP,), O), UP), (("not all above", (HINGE, UP), O), UP),
    (("not all above", (HINGE,), O), NOUGHT_SCREW),
    (("not all above", (HINGE,), O), ()), (("not all above", (HINGE, UP), O), (Z, Z)),
    (("has pitch", (HINGE, UP), I), ((Z, triple((0, 0, -5))), (Z, triple((0, 0, 5))))),
    (("has pitch", (HINGE, UP), I), ((Z, triple((0, 0, 5))), (triple((0, 0, -1)), triple((0, 0, 5))))),
    (("has pitch", (HINGE, UP), I), ((Z, triple((0, 0, 5))), (Z, triple((0, 0, 2))))),
    (("has pitch", (HINGE, UP), I), (HINGE, (Z, triple((0, 0, -5))))),
    (("has pitch", (HINGE, UP), I), (UP, UP)), (("has pitch", (HINGE,), O), (HINGE,)),
    (("has pitch", (HINGE,), O), HINGE),
    (("has pitch", (HINGE,), O), (HINGE, HINGE, HINGE)), (("has pitch", (HINGE,), I), (HINGE, HINGE)),
    (("has pitch", (HINGE,), O), ((X, NOUGHT), (X, NOUGHT))), (("has pitch", (HINGE,), O), [HINGE, HINGE]),
    (("no pitch", (HINGE,), O), ()), (("no pitch", (HINGE, UP), I), ()), (("no pitch", (HINGE,), I), (I,)),
    (("held", VICE), (I, (1, 2))), (("held", FIRM), (O,) * 8), (("held", FIRM), (I,) + (O,) * 8), (("held", FIRM), ()),
    (("held", FIRM + VICE), (O,) * 11), (("held", FIRM + VICE), (O,) * 9 + (I, I)), (("held", FIRM[:2]), (O,) * 6),
    (("not held", VICE), NOUGHT_SCREW), (("not held", VICE), (NOUGHT, Z)), (("not held", FIRM), NOUGHT_SCREW),
    (("not held", VICE), ()), (("not held", VICE), X), (("not held", LID), (NOUGHT, Z)),
    (("on", VICE, 0), (O, (1, 2))), (("on", VICE, 0), ((LESS, O),)), (("on", VICE, 0), ()),
    (("on", VICE, 0), ((O, I),)),
    (("on", VICE, 2), ((O, (1, 2)),)), (("on", VICE, -1), (((2, 1), O),)), (("on", VICE, True), (((2, 1), O),)),
    (("on", VICE, 0), ((O, (1, 2)), (O, (1, 2)))), (("on", LID, 0), ((LESS,),)), (("off", LID, 0), (NOUGHT, Z)),
    (("off", VICE, 0), (NOUGHT, Z)), (("off", VICE, 0), HINGE), (("off", LID, 1), (NOUGHT, DOWN[0])),
    (("off", LID, 0), NOUGHT_SCREW), (("off", LID, 0), ((NOUGHT, DOWN[0]),)),
    (("borne", VICE, DOWN), (O, (1, 2))), (("borne", VICE, DOWN), (I,)), (("borne", LID, DOWN), (LESS,)),
    (("borne", VICE, DOWN), (I, O, O)), (("not borne", VICE, DOWN), (NOUGHT, DOWN[0])),
    (("not borne", LID, DOWN), HINGE),
    (("not borne", VICE, (X, NOUGHT)), (NOUGHT, triple((-1, 0, 0)))), (("not borne", LID, DOWN), ()),
    (("settled", PINS, DEEP), (I, I)), (("settled", PINS, DEEP), (LESS, (2, 1), O)),
    (("settled", PINS, (NOUGHT, X)), (O, O)),
    (("unsettled", PINS, (NOUGHT, X)), (NOUGHT, Z)), (("unsettled", PINS, DEEP), (Y, NOUGHT)),
    (("unsettled", PINS, DEEP), HINGE),
    (("within", PINS, DEEP, (-3, 1), (29, 10)), (NOUGHT_SCREW, (LESS, (2, 1)), (LESS, (2, 1)))),
    (("within", PINS, DEEP, (-29, 10), (3, 1)), (NOUGHT_SCREW, (LESS, (2, 1)), (LESS, (2, 1)))),
    (("within", PINS, DEEP, (-3, 1), (3, 1)), (NOUGHT_SCREW, (LESS, (2, 1)))),
    (("within", PINS, DEEP, (-3, 1), (3, 1)), ((NOUGHT, triple((0, 0, 2))), (LESS, (2, 1)), (LESS, (2, 1)))),
    (("within", PINS, DEEP, (-3, 1), (3, 1)), (NOUGHT_SCREW, (LESS, (2, 1)), (I, I))),
    (("within", PINS, DEEP, (-3, 1), (3, 1)), (NOUGHT_SCREW, (I, I), (LESS, (2, 1)))),
    (("within", PINS, DEEP, (3, 1), (-3, 1)), (NOUGHT_SCREW, (LESS, (2, 1)), (LESS, (2, 1)))),
    (("beyond", PINS, DEEP, (-3, 1), (3, 1)), (triple((0, -2, 0)), triple((0, 0, -1)))),
    (("beyond", PINS, DEEP, (-3, 1), (2, 1)), (NOUGHT, triple((0, 0, 3)))),
    (("beyond", PINS, DEEP, LESS, I), NOUGHT_SCREW),
    (("does", (("turn", NOUGHT, Z),), HINGE), (I,)), (("does", (("turn", NOUGHT, Z),), HINGE), (((2, 1),),)),
    (("does", (("fixed",),), UP), ((),)), (("does", (("turn", NOUGHT, Z), ("fixed",)), HINGE), ((I,),)),
    (("does", (("turn", NOUGHT, Z), ("fixed",)), HINGE), ((I,), (O,))),
    (("does not", (("turn", NOUGHT, Z),), UP), UP), (("does not", (("turn", NOUGHT, Z),), HINGE), UP),
    (("does not", (("turn", NOUGHT, Z),), UP), HINGE[:1] + (Z,)),
    (("lost", WRIST, 1, O), NOUGHT_SCREW), (("lost", WRIST, 1, O), (NOUGHT, X)), (("lost", WRIST, 3, O), (NOUGHT, Y)),
    (("lost", WRIST, 1, I), (NOUGHT, Y)), (("lost", WRIST, 6, O), (NOUGHT, Y)), (("lost", WRIST, True, O), (NOUGHT, Y)),
    (("not lost", WRIST, 1, O), ()), (("not lost", WRIST, 1, None), ()), (("not lost", WRIST, 1, I), None),
    (("not lost", WRIST, 1, I), (O,)), (("not lost", SLIDES + SLIDES, 0, I), ()),
    (("struck", LID, CROSS, (Z, NOUGHT), NOUGHT_SCREW), (O,)), (("struck", LID, CROSS, DOWN, NOUGHT_SCREW), (LESS,)),
    (("struck", LID, CROSS, (Z, NOUGHT), (NOUGHT, (O, O, (1, 4)))), (O,)),
    (("struck", LID, CROSS, NOUGHT_SCREW, (NOUGHT, (O, O, (-1, 4)))), (I,)),
    (("struck", LID, CROSS[:2], NOUGHT_SCREW, NOUGHT_SCREW), (O,)),
    (("struck", LID, CROSS, NOUGHT_SCREW, NOUGHT_SCREW), ()),
    (("stiffer", FEET, FEET + SIDES), ()), (("stiffer", FEET, FEET), None), (("stiffer", FEET, FEET), (FEET,)),
    (("not stiffer", FEET, FEET + SIDES), NOUGHT_SCREW), (("not stiffer", FEET + SIDES, FEET), (Z, NOUGHT)),
    (("not stiffer", FEET, FEET), NOUGHT_SCREW), (("not stiffer", FEET, FEET + SIDES), ()), (("stiffer", FEET), ()),
]


def drawn_pairs(seed, many):
    """Claims and papers of each word, as certificates tell them."""
    for function, arguments in [
        (certify_screw, screw_arguments), (certify_above, pitch_arguments), (certify_pitch, pitch_arguments),
        (certify_jig, jig_arguments), (certify_touch, touch_arguments), (certify_push, push_arguments),
        (certify_mark, mark_arguments), (certify_range, range_arguments), (certify_move, move_arguments),
        (certify_stand, stand_arguments), (certify_blow, blow_arguments), (certify_springs, spring_arguments),
    ]:
        for told in arguments(seed, many):
            yield function(*told)


class Case(unittest.TestCase):
    def told(self, claim, paper):
        found = accepts(claim, paper)
        self.assertIs(type(found), bool)
        return found

    def same(self, claim, paper):
        found = self.told(claim, paper)
        self.assertEqual(found, own_accepts(claim, paper), (claim, paper))
        return found


class Papers(Case):
    def test_by_hand(self):
        words = set()
        for claim, paper in ACCEPTED:
            self.assertIs(accepts(claim, paper), True, (claim, paper))
            self.assertIs(accepts(paper=paper, claim=claim), True)
            self.assertTrue(own_accepts(claim, paper))
            words.add(claim[0])
        self.assertEqual(words, set(WORDS))
        for claim, paper in REFUSED:
            self.assertIs(accepts(claim, paper), False, (claim, paper))
            self.assertIs(accepts(paper=paper, claim=claim), False)

    def test_bent_papers(self):
        draws, seen = Draws(701), {True: 0, False: 0}
        for claim, paper in drawn_pairs(702, 14):
            self.assertTrue(self.same(claim, paper))
            for _ in range(12):
                seen[self.same(claim, bent(draws, paper))] += 1
        self.assertGreater(seen[True], 20)
        self.assertGreater(seen[False], 1000)

    def test_bent_claims(self):
        draws, seen = Draws(703), {"claim": 0, "none": 0, True: 0}
        for claim, paper in drawn_pairs(704, 14):
            for _ in range(12):
                spoilt = bent(draws, claim)
                seen["claim" if own_is_claim(spoilt) else "none"] += 1
                if self.same(spoilt, paper):
                    seen[True] += 1
        self.assertGreater(seen["claim"], 100)
        self.assertGreater(seen["none"], 500)
        self.assertGreater(seen[True], 30)

    def test_papers_of_other_claims(self):
        told = list(drawn_pairs(705, 3))
        draws = Draws(706)
        papers = [paper for _, paper in told] + [(), None, (O,), NOUGHT_SCREW, HINGE, (O,) * 6]
        for claim, _ in told:
            for _ in range(12):
                self.same(claim, draws.pick(papers))

    def test_never_both(self):
        """No paper of a pool is accepted for a claim, while another one is for what excludes it."""
        told = list(drawn_pairs(707, 5))
        pool = [paper for _, paper in told] + [(), NOUGHT_SCREW, HINGE, UP, (HINGE, HINGE)]
        screws = [screw(times(sign, six(part))) for part in ((X, NOUGHT), (Y, X), HINGE, UP, (NOUGHT, Y))
                  for sign in (1, -1)]
        for claim, paper in told:
            if claim[0] in OTHER:
                other = (OTHER[claim[0]],) + claim[1:]
                for spoilt in pool + screws:
                    self.assertIs(accepts(other, spoilt), False)

    def test_other_papers_than_certificates_tell(self):
        draws, accepted = Draws(708), 0
        for claim, paper in drawn_pairs(709, 10):
            if claim[0] in ("out", "not held", "off", "not borne", "unsettled", "does not", "lost", "not stiffer"):
                for factor in (2, Fraction(1, 3), 10 ** 20):
                    self.assertTrue(self.same(claim, screw(times(factor, six(paper)))))
                accepted += 1
                self.same(claim, screw(times(-1, six(paper))))
            if claim[0] == "held":
                twice = tuple(pair(2 * Fraction(*part)) for part in paper)
                self.assertTrue(self.same(claim, twice))
                accepted += 1
            if claim[0] == "beyond":
                self.same(claim, screw(times(draws.small(), six(paper))))
        self.assertGreater(accepted, 30)


class Anything(Case):
    VALUES = ANYTHING + [
        nested(14), [nested(13)], ("held",), ("held", ()), ("in",), "held", ("held", FIRM), ["held", FIRM], (FIRM,),
        ("Held", FIRM), (b"held", FIRM), (("held",), FIRM), ({}, FIRM), (["held"], FIRM), (None, FIRM), (0, FIRM),
        {"held": FIRM}, ("held", FIRM, ()), ("held", list(FIRM)), ("on", FIRM), ("on", FIRM, 0, 0), ("not", FIRM),
        ("struck", LID, CROSS, DOWN), ("within", PINS, DEEP, O), ("lost", WRIST, 1), ("in", HINGE, HINGE), (O,) * 9,
        ("stiffer", FEET, ()), ("all above", (), 0), ("has pitch", (), None), ("held ", FIRM), ("not  held", VICE),
    ]

    def test_anything(self):
        for claim in self.VALUES:
            for paper in self.VALUES:
                found = self.told(claim, paper)
                self.assertIs(found, claim == ("held", FIRM) and paper == (O,) * 9 and type(paper) is tuple)

    def test_anything_as_a_paper(self):
        for claim, _ in ACCEPTED + REFUSED:
            for paper in self.VALUES:
                if not isinstance(paper, tuple):
                    self.assertIs(accepts(claim, paper), False)
                else:
                    self.told(claim, paper)

    def test_anything_in_a_claim(self):
        for claim, paper in ACCEPTED:
            for at in range(len(claim)):
                for value in self.VALUES:
                    spoilt = claim[:at] + (value,) + claim[at + 1:]
                    if own_is_claim(spoilt):
                        self.same(spoilt, paper)
                    else:
                        self.assertIs(accepts(spoilt, paper), False)
            for spoilt in (claim[:-1], claim + ((),), claim + claim[-1:], claim[1:], list(claim), (claim,)):
                self.assertIs(accepts(spoilt, paper), False)

    def test_anything_in_a_paper(self):
        for claim, paper in ACCEPTED:
            for at in range(len(paper)):
                for value in self.VALUES:
                    spoilt = paper[:at] + (value,) + paper[at + 1:]
                    if not isinstance(value, tuple):
                        self.assertIs(accepts(claim, spoilt), False)
                    else:
                        self.told(claim, spoilt)
            for spoilt in (list(paper), (paper,), {paper: 1}, paper + (None,)):
                self.assertIs(accepts(claim, spoilt), False)

    def test_wrong_jigs(self):
        for value, _ in WRONG_JIGS:
            for word, rest in (("held", ()), ("not held", ()), ("on", (0,)), ("off", (0,)), ("borne", (DOWN,))):
                for paper in ((), HINGE, (O,)):
                    self.assertIs(accepts((word, value) + rest, paper), False)
        self.assertIs(accepts(("held", GOOD_TOUCHES[:1]), (O,)), False)


if __name__ == "__main__":
    unittest.main()
