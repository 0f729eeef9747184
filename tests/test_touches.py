"""Touches and jigs: what is held, kept, loose, and what comes off ([28] to [31], [40])."""
import unittest
from fractions import Fraction

from sevenpins.errors import InvalidIndex, InvalidJig, InvalidPlacing, InvalidScrew, InvalidTouch
from sevenpins.touches import (
    comes_off, free_move, holding_weights, is_jig, is_left, is_touch, jig_rows, keeping, off_move, on_weights,
    opening_move, placed_jig, rows_of, word_of,
)
from tests.helpers import (
    NOUGHT, WRONG_SCREWS, WRONG_WHOLES, X, Y, Z, assert_base, check_refusals, given, indexed, own_line, own_rank,
    own_system, own_turned, plus, same_screw, screw, six, times, triple, vector,
)
from tests.jigs import (
    GOOD_TOUCHES, NOUGHT_SCREW, WRONG_JIGS, WRONG_TOUCHES, JigDraws, Left, check_left, check_weights, own_is_left,
    own_jig_rows, own_rows, told_otherwise, worth,
)
from tests.test_turnings import WRONG_PLACINGS

DOWN = triple((0, 0, -1))
VICE = (("stop", NOUGHT, Z), ("stop", NOUGHT, DOWN))


def own_placed(placing, point):
    return plus(own_turned(placing[0], vector(point)), vector(placing[1]))


def own_placed_jig(jig, placing):
    found = []
    for touch in jig:
        ways = tuple(triple(own_turned(placing[0], vector(way))) for way in touch[2:])
        if touch[0] == "rest":
            found.append(("rest", tuple(triple(own_placed(placing, point)) for point in touch[1])) + ways)
        else:
            found.append((touch[0], triple(own_placed(placing, touch[1]))) + ways)
    return tuple(found)


def own_led(placing, told):
    """The screw led: its moment at the point to which r is led is that at r, turned."""
    line = own_turned(placing[0], six(told)[:3])
    moment = own_turned(placing[0], six(told)[3:])
    c = vector(placing[1])
    across = six(own_line(c, line))[3:]
    return screw(line + plus(moment, across))


class Case(unittest.TestCase):
    def small(self, seed, count, rows=8):
        draws = JigDraws(seed)
        for _ in range(count):
            jig = draws.small_jig(rows)
            yield draws, jig, own_jig_rows(jig)

    def large(self, seed, count):
        draws = JigDraws(seed)
        for _ in range(count):
            jig = draws.jig()
            yield draws, jig, own_jig_rows(jig)


class Rows(Case):
    def test_is_touch(self):
        for good in GOOD_TOUCHES:
            self.assertIs(is_touch(good), True)
            self.assertIs(is_touch(value=good), True)
        draws = JigDraws(131)
        for _ in range(200):
            self.assertIs(is_touch(draws.touch()), True)
        for value in WRONG_TOUCHES:
            self.assertIs(is_touch(value), False, value)

    def test_is_jig(self):
        full, stop = GOOD_TOUCHES[-1], GOOD_TOUCHES[0]
        for jig in ((stop,), (stop,) * 12, (full,) * 4, (full, full, full, ("cup", X), ("cup", X)), (("cup", Y),) * 8):
            self.assertIs(is_jig(jig), True)
            self.assertIs(is_jig(value=jig), True)
        for _, jig, _ in self.large(132, 60):
            self.assertIs(is_jig(jig), True)
        for value, _ in WRONG_JIGS:
            self.assertIs(is_jig(value), False, value)

    def check_rows(self, found, expected):
        self.assertIs(type(found), tuple)
        self.assertEqual(len(found), len(expected))
        for row, (push, both) in zip(found, expected):
            self.assertIs(type(row), tuple)
            self.assertEqual(len(row), 2)
            same_screw(self, row[0], six(push))
            self.assertIs(row[1], both)

    def test_rows(self):
        for _, jig, rows in self.large(133, 80):
            self.check_rows(jig_rows(jig), rows)
            self.assertEqual(jig_rows(jig=jig), jig_rows(jig))
            for touch in jig:
                self.check_rows(rows_of(touch), own_rows(touch))
                self.assertEqual(rows_of(touch=touch), rows_of(touch))

    def test_told_rows(self):
        self.assertEqual(rows_of(("pin", X, Z)), (((Z, triple((0, -1, 0))), True),))
        self.assertEqual(rows_of(("groove", X, Z, DOWN[:2] + ((-2, 1),))[:2] + (Z, Y))[1], ((Y, Z), False))
        self.assertEqual([both for _, both in rows_of(("cup", Z))], [True] * 3)
        self.assertEqual(rows_of(("cup", Z)), (((X, Y), True), ((Y, triple((-1, 0, 0))), True), ((Z, NOUGHT), True)))
        self.assertEqual([push for push, _ in rows_of(("rest", (Y, NOUGHT), Z))], [(Z, X), (Z, NOUGHT)])

    def test_is_left(self):
        seen = {True: 0, False: 0}
        for draws, jig, rows in self.small(134, 60):
            left = Left(rows)
            moves = [draws.screw(), draws.plain_screw(), NOUGHT_SCREW] + [screw(move) for move in left.sides[:6]]
            moves += [screw(move) for move in left.still + left.rays[:4]]
            for move in moves:
                found = is_left(jig, move)
                self.assertIs(found, own_is_left(rows, move))
                self.assertIs(is_left(move=move, jig=jig), found)
                seen[found] += 1
        self.assertGreater(min(seen.values()), 60)


class Words(Case):
    def check_word(self, jig, rows, expected=None):
        """The word with its papers; all of them are looked at by own sums."""
        word, weights, move = word_of(jig), holding_weights(jig), free_move(jig)
        self.assertIn(word, ("held", "kept", "loose"))
        if expected is not None:
            self.assertEqual(word, expected)
        rank = own_rank([six(push) for push, _ in rows])
        if word == "loose":
            self.assertIsNone(weights)
        else:
            check_weights(self, rows, weights, [0] * 6)
            for (_, both), weight in zip(rows, weights):
                self.assertTrue(both or weight[0] > 0)
        if word == "held":
            self.assertEqual(rank, 6)
            self.assertIsNone(move)
        else:
            check_left(self, rows, move)
            self.assertTrue(any(six(move)))
        if word == "kept":
            self.assertLess(rank, 6)
        self.assertEqual((word_of(jig=jig), holding_weights(jig=jig), free_move(jig=jig)), (word, weights, move))
        return word

    def check_loose(self, jig, rows):
        """That a jig is loose is seen by the move that takes off what comes off."""
        move = opening_move(jig)
        check_left(self, rows, move)
        self.assertTrue(any(worth(push, move) > 0 for push, _ in rows))

    def test_words_and_papers(self):
        seen = {}
        for _, jig, rows in self.small(135, 150):
            word = self.check_word(jig, rows, Left(rows).word(rows))
            seen[word] = seen.get(word, 0) + 1
            if word == "loose":
                self.check_loose(jig, rows)
        self.assertGreater(min(seen.values()), 25)
        self.assertEqual(len(seen), 3)

    def test_large_jigs(self):
        seen = set()
        for _, jig, rows in self.large(136, 80):
            word = self.check_word(jig, rows)
            if word == "loose":
                self.check_loose(jig, rows)
            seen.add(word)
        self.assertTrue({"held", "loose"} <= seen)

    def test_told_jigs(self):
        side = [("stop", triple(point), triple(way)) for point, way in (
            ((1, 0, 0), (0, 0, 1)), ((0, 1, 0), (0, 0, 1)), ((0, 0, 0), (0, 0, 1)), ((0, 0, 0), (0, 1, 0)),
            ((1, 0, 0), (0, 1, 0)), ((0, 0, 0), (1, 0, 0)),
        )]
        locators = tuple(side)
        for jig, word in [
            (VICE, "kept"), (VICE[:1], "loose"), ((("cup", X),), "kept"), ((("cup", X), ("cup", Y)), "kept"),
            ((("cup", X), ("cup", Y), ("cup", Z)), "held"), (locators, "loose"),
            (tuple(("pin",) + stop[1:] for stop in side), "held"), ((("pin", X, Y),) * 12, "kept"),
            (locators + (("stop", triple((Fraction(1, 3),) * 3), triple((-1, -1, -1))),), "loose"),
            (locators + (("stop", triple((Fraction(1, 4), Fraction(1, 4), Fraction(1, 4))), DOWN),
                         ("stop", triple((Fraction(1, 3), 0, 0)), triple((0, -1, 0))),
                         ("stop", NOUGHT, triple((-1, 0, 0)))), "held"),
            ((("rest", (X, Y, triple((-1, -1, 0))), Z), ("stop", NOUGHT, DOWN)), "kept"),
            ((("rest", (X, Y, triple((-1, -1, 0))), Z), ("stop", triple((-1, -1, 5)), DOWN)), "loose"),
            ((("rest", (X, Y, triple((-1, -1, 0))), Z), ("stop", triple((0, 1, 5)), DOWN)), "loose"),
            ((("groove", X, Z, DOWN[:1] + Y[1:2] + ((0, 1),)),), "loose"),
        ]:
            self.check_word(jig, own_jig_rows(jig), word)

    def test_nearly_along_one_line(self):
        tiny = Fraction(1, 10 ** 25)
        for lean, word in ((tiny, "kept"), (-tiny, "loose")):
            jig = (("groove", NOUGHT, Z, triple((tiny, 0, -1))), ("stop", NOUGHT, triple((-tiny, 0, lean - tiny))),)
            rows = own_jig_rows(jig)
            self.check_word(jig, rows, Left(rows).word(rows))
            jig = (("groove", NOUGHT, Z, triple((tiny, 0, -1))), ("stop", NOUGHT, triple((-1, 0, lean))))
            self.check_word(jig, own_jig_rows(jig), Left(own_jig_rows(jig)).word(own_jig_rows(jig)))
        flat = ("groove", NOUGHT, triple((1, tiny, 0)), triple((-1, tiny, 0)))
        self.check_word((flat, ("stop", NOUGHT, triple((0, -1, 0)))), own_jig_rows(
            (flat, ("stop", NOUGHT, triple((0, -1, 0))))), "kept")
        self.check_word((flat, ("stop", NOUGHT, Y)), own_jig_rows((flat, ("stop", NOUGHT, Y))), "loose")

    def test_without_rows_one_way(self):
        draws = JigDraws(137)
        for _ in range(40):
            jig = draws.jig(7, 24, ("pin", "cup", "pin"))
            rows = own_jig_rows(jig)
            held = own_rank([six(push) for push, _ in rows]) == 6
            self.check_word(jig, rows, "held" if held else "kept")

    def test_keeping(self):
        for _, jig, rows in self.small(138, 80):
            found = keeping(jig)
            assert_base(self, found)
            self.assertEqual(found, own_system([screw(move) for move in Left(rows).still]))
            self.assertEqual(keeping(jig=jig), found)
            if word_of(jig) == "kept":
                for move in found:
                    self.assertTrue(is_left(jig, move) and is_left(jig, screw(times(-1, six(move)))))

    def test_large_numbers(self):
        draws = JigDraws(139)
        far = 10 ** 30
        for _ in range(8):
            jig = tuple(
                ("groove",) + tuple(triple([Fraction(draws.whole(-far, far), draws.whole(1, far)) for _ in range(3)])
                                    for _ in range(3)) for _ in range(draws.whole(3, 9))
            )
            if is_jig(jig):
                rows = own_jig_rows(jig)
                if self.check_word(jig, rows) == "loose":
                    self.check_loose(jig, rows)

    def test_jigs_told_otherwise(self):
        for draws, jig, rows in self.small(140, 60):
            other = told_otherwise(jig)
            if len(other) <= 12:
                self.check_word(other, own_jig_rows(other), word_of(jig))
                self.assertEqual(keeping(other), keeping(jig))
            turned = tuple(jig[::-1])
            self.assertEqual(word_of(turned), word_of(jig))
            last = len(jig) - 1
            for index in range(len(jig)):
                self.assertIs(comes_off(turned, last - index), comes_off(jig, index))
            if len(rows) < 20 and len(jig) < 12:
                self.assertEqual(word_of(jig + (jig[0],)), word_of(jig))


class Off(Case):
    def check_touch(self, jig, rows, index, expected=None):
        off, move, weights = comes_off(jig, index), off_move(jig, index), on_weights(jig, index)
        if expected is not None:
            self.assertIs(off, expected)
        own = own_rows(jig[index])
        if off:
            self.assertIs(off, True)
            self.assertIsNone(weights)
            check_left(self, rows, move)
            self.assertTrue(any(worth(push, move) > 0 for push, _ in own))
        else:
            self.assertIs(off, False)
            self.assertIsNone(move)
            self.assertIs(type(weights), tuple)
            self.assertEqual(len(weights), len(own))
            for (push, _), told in zip(own, weights):
                check_weights(self, rows, told, times(-1, six(push)))
        self.assertIs(comes_off(index=index, jig=jig), off)
        self.assertEqual(off_move(index=index, jig=jig), move)
        self.assertEqual(on_weights(index=index, jig=jig), weights)
        return off

    def check_opening(self, jig, rows, off):
        """One move for all touches that come off, told as indexes."""
        move = opening_move(jig)
        self.assertEqual(opening_move(jig=jig), move)
        if not off:
            self.assertIsNone(move)
            return
        check_left(self, rows, move)
        for index, touch in enumerate(jig):
            self.assertIs(any(worth(push, move) > 0 for push, _ in own_rows(touch)), index in off)

    def test_against_own_moves(self):
        seen = {True: 0, False: 0}
        for _, jig, rows in self.small(141, 100):
            left = Left(rows)
            off = []
            for index, touch in enumerate(jig):
                expected = any(worth(push, ray) > 0 for push, _ in own_rows(touch) for ray in left.rays)
                if self.check_touch(jig, rows, index, expected):
                    off.append(index)
                seen[expected] += 1
            self.check_opening(jig, rows, off)
            self.assertEqual(bool(off), word_of(jig) == "loose")
        self.assertGreater(min(seen.values()), 60)

    def test_large_jigs(self):
        partly = 0
        for _, jig, rows in self.large(142, 60):
            off = [index for index in range(len(jig)) if self.check_touch(jig, rows, index)]
            self.check_opening(jig, rows, off)
            partly += 0 < len(off) < len(jig)
        self.assertGreater(partly, 10)

    def test_told_touches(self):
        mount = (("cup", NOUGHT), ("rest", (X, triple((2, 0, 0))), Z), ("stop", X, triple((0, 1, -1))), ("stop", X, Y))
        rows = own_jig_rows(mount)
        for index, off in ((0, False), (1, True), (2, True), (3, True)):
            self.check_touch(mount, rows, index, off)
        self.check_opening(mount, rows, [1, 2, 3])
        shut = mount[:1] + (("stop", X, Z), ("stop", X, DOWN), ("stop", Y, Z))
        for index, off in ((0, False), (1, False), (2, False), (3, True)):
            self.check_touch(shut, own_jig_rows(shut), index, off)
        self.check_opening(shut, own_jig_rows(shut), [3])
        # A rest of which one row alone comes off.
        lever = (("rest", (X, Y), Z), ("stop", X, DOWN), ("pin", NOUGHT, Z))
        self.check_touch(lever, own_jig_rows(lever), 0, True)
        self.check_touch(lever, own_jig_rows(lever), 1, False)

    def test_greatest_jigs(self):
        draws = JigDraws(143)
        for words, count in ((("groove",), 12), (("cup",), 8), (("stop",), 12), (("pin",), 12)):
            jig = tuple(draws.touch(words) for _ in range(count))
            rows = own_jig_rows(jig)
            off = [index for index in range(count) if self.check_touch(jig, rows, index)]
            self.check_opening(jig, rows, off)
        points = tuple(triple((at, at * at, at % 2)) for at in range(6))
        rests = tuple(("rest", points, triple(way)) for way in ((1, 0, 0), (-1, 0, 0), (0, 1, 0), (0, -1, 5)))
        rows = own_jig_rows(rests)
        self.check_opening(rests, rows, [at for at in range(4) if self.check_touch(rests, rows, at)])


class Placed(Case):
    def test_placed_jig(self):
        for draws, jig, rows in self.small(144, 60):
            placing = draws.placing()
            found = placed_jig(jig, placing)
            self.assertEqual(found, own_placed_jig(jig, placing))
            self.assertEqual(placed_jig(placing=placing, jig=jig), found)
            self.assertIs(is_jig(found), True)
            self.assertEqual(word_of(found), word_of(jig))
            for index in range(len(jig)):
                self.assertIs(comes_off(found, index), comes_off(jig, index))
            self.assertEqual(keeping(found), own_system([own_led(placing, move) for move in keeping(jig)]))
            for ray in Left(rows).sides[:6]:
                self.assertIs(is_left(found, own_led(placing, screw(ray))), own_is_left(rows, ray))
            if all(touch[0] != "cup" for touch in jig):
                expected = [(six(own_led(placing, push)), both) for push, both in rows]
                self.assertEqual([(six(push), both) for push, both in jig_rows(found)], expected)

    def test_by_hand(self):
        quarter = ((1, 0, 0, 1), X)
        jig = (("stop", X, Z), ("rest", (X, Y), X), ("groove", NOUGHT, X, Y), ("pin", Y, Y), ("cup", X))
        self.assertEqual(placed_jig(jig, quarter), (
            ("stop", triple((1, 1, 0)), Z), ("rest", (triple((1, 1, 0)), NOUGHT), Y),
            ("groove", X, Y, triple((-1, 0, 0))), ("pin", NOUGHT, triple((-1, 0, 0))), ("cup", triple((1, 1, 0))),
        ))
        self.assertEqual(placed_jig(jig, ((1, 0, 0, 0), NOUGHT)), jig)


class Refusals(Case):
    jigs = indexed(WRONG_JIGS, InvalidJig)
    good = (("stop", Y, Z), ("cup", X))

    def test_touches(self):
        check_refusals(self, rows_of, {"touch": ("stop", Y, Z)}, {"touch": given(WRONG_TOUCHES, InvalidTouch)})

    def test_jigs(self):
        for function in (jig_rows, word_of, holding_weights, free_move, keeping, opening_move):
            check_refusals(self, function, {"jig": self.good}, {"jig": self.jigs})

    def test_moves(self):
        check_refusals(self, is_left, {"jig": self.good, "move": (X, Y)}, {
            "jig": self.jigs, "move": given(WRONG_SCREWS, InvalidScrew),
        })

    def test_indexes(self):
        indexes = given(WRONG_WHOLES + [-1, 2, 3, 4, 10 ** 30, True, False, -2], InvalidIndex)
        for function in (comes_off, off_move, on_weights):
            check_refusals(self, function, {"jig": self.good, "index": 0}, {"jig": self.jigs[::5], "index": indexes})

    def test_placings(self):
        check_refusals(self, placed_jig, {"jig": self.good, "placing": ((1, 0, 0, 0), X)}, {
            "jig": self.jigs[::5], "placing": given(WRONG_PLACINGS, InvalidPlacing),
        })


if __name__ == "__main__":
    unittest.main()
