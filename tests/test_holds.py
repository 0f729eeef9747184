"""Which touches hold a jig, and which are needless ([29] to [32])."""
import time
import unittest
from fractions import Fraction
from itertools import combinations

from sevenpins.errors import InvalidJig, TooMany
from sevenpins.holds import fewest_holding, holders_among, kept_touches, needless_touches
from sevenpins.touches import comes_off, free_move, holding_weights, placed_jig, word_of
from tests.helpers import (
    NOUGHT, X, Y, Z, assert_whole, check_refusals, indexed, own_rank, refused, six, times, triple, vector,
)
from tests.jigs import (
    WRONG_JIGS, JigDraws, Left, check_left, check_weights, own_jig_rows, own_rows, worth,
)

FIRM = (
    ("cup", NOUGHT), ("stop", Y, Z), ("stop", Z, X), ("stop", X, Y),
    ("stop", triple((Fraction(1, 2), Fraction(1, 2), -1)), triple((1, -1, 0))),
)


class HoldDraws(JigDraws):
    def held(self, more=2):
        """A jig that holds mostly, with some touches that it may do without."""
        kind = self.random.randrange(3)
        if kind == 0:
            found = FIRM
        elif kind == 1:
            found = self.clamped()
        else:
            found = tuple(("pin", self.point(), self.way()) for _ in range(4)) + self.vice(2)
        found = list(found)
        for _ in range(self.whole(0, more)):
            touch = self.pick(found) if self.random.randrange(2) else self.touch()
            found.insert(self.whole(0, len(found)), touch)
        if self.random.randrange(4) == 0:
            found.pop()
        return tuple(found[:9])


def own_holds(rows):
    return own_rank([six(push) for push, _ in rows]) == 6 and Left(rows).word(rows) == "held" if rows else False


class Case(unittest.TestCase):
    def holds(self, jig):
        """Whether a jig holds, by its paper."""
        if not jig:
            return False
        rows = own_jig_rows(jig)
        weights, move = holding_weights(jig), free_move(jig)
        if move is None:
            check_weights(self, rows, weights, [0] * 6)
            self.assertTrue(all(both or weight[0] > 0 for (_, both), weight in zip(rows, weights)))
            self.assertEqual(own_rank([six(push) for push, _ in rows]), 6)
            return True
        check_left(self, rows, move)
        self.assertTrue(any(six(move)))
        return False

    def check_indexes(self, found):
        self.assertIs(type(found), tuple)
        for index in found:
            assert_whole(self, index)
        self.assertEqual(sorted(set(found)), list(found))


class Kept(Case):
    def test_kept_touches(self):
        draws = HoldDraws(151)
        partly = 0
        for at in range(120):
            jig = draws.small_jig() if at % 2 else draws.jig()
            found = kept_touches(jig)
            self.check_indexes(found)
            self.assertEqual(found, tuple(index for index in range(len(jig)) if not comes_off(jig, index)))
            self.assertEqual(kept_touches(jig=jig), found)
            partly += 0 < len(found) < len(jig)
            if at % 2:
                rays, rows = Left(own_jig_rows(jig)).rays, [own_rows(touch) for touch in jig]
                off = [index for index in range(len(jig)) if any(
                    worth(push, ray) > 0 for push, _ in rows[index] for ray in rays)]
                self.assertEqual(found, tuple(index for index in range(len(jig)) if index not in off))
        self.assertGreater(partly, 20)

    def test_holders_among(self):
        draws = HoldDraws(152)
        seen = {True: 0, False: 0}
        for _ in range(60):
            jig = draws.held()
            if len(jig) > 1 and draws.whole(0, 3):
                jig = jig[:-1]
            touches = draws.jig(6, 20)
            found = holders_among(jig, touches)
            self.check_indexes(found)
            self.assertEqual(holders_among(touches=touches, jig=jig), found)
            for index, touch in enumerate(touches):
                both = jig + (touch,)
                if len(own_jig_rows(both)) <= 24 and len(both) <= 12:
                    self.assertIs(index in found, self.holds(both))
                seen[index in found] += 1
        self.assertGreater(min(seen.values()), 30)

    def test_holders_of_full_jigs(self):
        # Together there are more rows, and more touches, than a jig has.
        pins = tuple(("pin", NOUGHT, way) for way in (X, Y, Z)) * 4
        self.assertEqual(holders_among(pins, (("cup", X), ("stop", X, Z))), ())
        turned = pins[:11] + (("pin", X, Z),)
        self.assertEqual(holders_among(turned, (("cup", Y), ("cup", Z), ("stop", Y, Z), ("cup", X))), (0,))
        full = (("cup", X),) * 4 + (("cup", Y),) * 4
        among = (("stop", Z, Y), ("pin", Z, Y), ("cup", triple((2, -1, 0))), ("groove", Z, X, Y),
                 ("rest", (Z, triple((0, 0, -1))), triple((1, 1, 0))))
        self.assertEqual(holders_among(full, among), tuple(
            index for index, touch in enumerate(among) if own_holds(own_jig_rows((full[0], full[4], touch)))))
        self.assertEqual(holders_among(full, among), (1, 4))
        self.assertEqual(holders_among(full + (), (full[0],) * 8), ())
        self.assertEqual(holders_among((("cup", X), ("cup", Y), ("cup", Z)), (("stop", X, Y),) * 12), tuple(range(12)))


class Fewest(Case):
    def own_fewest(self, jig):
        """The first choice that holds by own sums; its rows must be few."""
        for many in range(1, len(jig) + 1):
            for indexes in combinations(range(len(jig)), many):
                rows = own_jig_rows([jig[index] for index in indexes])
                counted = sum(2 if both else 1 for _, both in rows)
                if counted >= 7 and own_holds(rows):
                    return indexes
        return None

    def test_against_all_choices(self):
        draws = HoldDraws(153)
        held = 0
        for _ in range(35):
            jig = draws.held()
            expected = None
            for many in range(1, len(jig) + 1):
                for indexes in combinations(range(len(jig)), many):
                    if expected is None and self.holds(tuple(jig[index] for index in indexes)):
                        expected = indexes
            found = fewest_holding(jig)
            self.assertEqual(found, expected)
            self.assertEqual(fewest_holding(jig=jig), found)
            self.assertEqual(found is None, word_of(jig) != "held")
            held += found is not None
            if found is not None:
                self.check_indexes(found)
                rows = own_jig_rows([jig[index] for index in found])
                self.assertGreaterEqual(sum(2 if both else 1 for _, both in rows), 7)
        self.assertGreater(held, 14)

    def test_against_own_choices(self):
        draws = HoldDraws(154)
        for _ in range(12):
            jig = draws.held(0)
            if len(jig) <= 7 and len(own_jig_rows(jig)) <= 9:
                self.assertEqual(fewest_holding(jig), self.own_fewest(jig))

    def test_needless_touches(self):
        draws = HoldDraws(155)
        some = 0
        for _ in range(120):
            jig = draws.held(3)
            found = needless_touches(jig)
            self.check_indexes(found)
            self.assertEqual(needless_touches(jig=jig), found)
            expected = ()
            if self.holds(jig):
                expected = tuple(index for index in range(len(jig)) if self.holds(jig[:index] + jig[index + 1:]))
            self.assertEqual(found, expected)
            some += 0 < len(found) < len(jig)
        self.assertGreater(some, 20)

    def test_seven_rows_at_least_and_twelve_at_most(self):
        # Rows both ways count twice; what is left when nothing more can go holds by few rows.
        draws, counts = HoldDraws(158), set()
        for _ in range(120):
            jig = tuple(draws.touch(("pin", "stop")) for _ in range(2)) + draws.vice(2) + tuple(
                ("pin", draws.point(), draws.way()) for _ in range(3))
            while needless_touches(jig):
                index = draws.pick(needless_touches(jig))
                jig = jig[:index] + jig[index + 1:]
            if word_of(jig) == "held":
                counts.add(sum(2 if touch[0] == "pin" else 1 for touch in jig))
        self.assertTrue(counts)
        self.assertGreaterEqual(min(counts), 7)
        self.assertLessEqual(max(counts), 12)

    def test_told_jigs(self):
        self.assertEqual(fewest_holding(FIRM), (0, 1, 2, 3, 4))
        self.assertEqual(needless_touches(FIRM), ())
        twice = FIRM[:4] + (FIRM[1],) + FIRM[4:]
        self.assertEqual((fewest_holding(twice), needless_touches(twice)), ((0, 1, 2, 3, 5), (1, 4)))
        cups = tuple(("cup", point) for point in (NOUGHT, X, triple((2, 0, 0)), Y, Z))
        self.assertEqual((fewest_holding(cups), needless_touches(cups)), ((0, 1, 3), (0, 1, 2, 3, 4)))
        self.assertEqual((fewest_holding(cups[:3]), needless_touches(cups[:3])), (None, ()))
        self.assertEqual((fewest_holding(cups[:1]), needless_touches(cups[:1])), (None, ()))
        mixed = (("stop", X, Z), ("pin", X, Z)) + tuple(("pin",) + told for told in (
            (NOUGHT, X), (NOUGHT, Y), (NOUGHT, Z), (X, Y), (Y, Z)))
        self.assertEqual((fewest_holding(mixed), needless_touches(mixed)), ((1, 2, 3, 4, 5, 6), (0,)))

    def test_told_otherwise_and_placed(self):
        draws = HoldDraws(156)
        for _ in range(30):
            jig = draws.held()
            other = placed_jig(jig, draws.placing())
            self.assertEqual(fewest_holding(other), fewest_holding(jig))
            self.assertEqual(needless_touches(other), needless_touches(jig))
            self.assertEqual(kept_touches(other), kept_touches(jig))
            longer = tuple(
                touch[:2] + tuple(triple(times(3, vector(way))) for way in touch[2:]) for touch in jig)
            self.assertEqual(fewest_holding(longer), fewest_holding(jig))
            self.assertEqual(needless_touches(longer), needless_touches(jig))
            last = len(jig) - 1
            back = needless_touches(jig[::-1])
            self.assertEqual(tuple(last - index for index in reversed(back)), needless_touches(jig))

    def test_nine_touches_in_time(self):
        draws = HoldDraws(157)
        spent = 0
        for words in (("groove",), ("stop",), ("pin", "stop"), ("cup", "groove", "stop")):
            for _ in range(2):
                jig = draws.jig(9, 24, words)
                while len(jig) < 9 and len(own_jig_rows(jig)) < 21:
                    jig += (draws.touch(words),)
                start = time.process_time()
                found, needless = fewest_holding(jig), needless_touches(jig)
                spent = max(spent, time.process_time() - start)
                if found is not None:
                    self.assertTrue(self.holds(tuple(jig[index] for index in found)))
                    self.assertEqual([index for index in needless if index not in range(len(jig))], [])
                    outside = [index for index in range(len(jig)) if index not in found]
                    self.assertTrue(set(outside) <= set(needless))
        self.assertLess(spent, 10)


class Refusals(Case):
    good = (("stop", Y, Z), ("cup", X))
    jigs = indexed(WRONG_JIGS, InvalidJig)

    def test_jigs(self):
        for function in (kept_touches, fewest_holding, needless_touches):
            check_refusals(self, function, {"jig": self.good}, {"jig": self.jigs})

    def test_touches(self):
        check_refusals(self, holders_among, {"jig": self.good, "touches": self.good}, {
            "jig": self.jigs[::3], "touches": self.jigs,
        })

    def test_too_many(self):
        for count in (10, 11, 12):
            for touch in (self.good[0], ("pin", X, Y)):
                for function in (fewest_holding, needless_touches):
                    with self.subTest(function=function.__name__, count=count):
                        try:
                            function((touch,) * count)
                            self.fail("not refused")
                        except TooMany as raised:
                            self.assertEqual(raised.given, count)
                            assert_whole(self, raised.given)
        for function in (fewest_holding, needless_touches):
            # Ten touches with a wrong one among them are no jig first of all.
            refused(self, InvalidJig, lambda: function(self.good[:1] * 10 + (None,)), {"index": 10})
            refused(self, InvalidJig, lambda: function(self.good[:1] * 13), {"index": 12})
            self.assertIn(function(self.good[:1] * 9), (None, ()))
        self.assertEqual(kept_touches((("pin", X, Y),) * 12), tuple(range(12)))


if __name__ == "__main__":
    unittest.main()
