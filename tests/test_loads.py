"""Which pushes a jig bears, with which weights, and how far they may grow ([33] to [35], [40])."""
import time
import unittest
from fractions import Fraction

from sevenpins.errors import InvalidIndex, InvalidJig, InvalidLot, InvalidScrew
from sevenpins.loads import (
    are_all_borne, bearing_weights, breaking_move, clamp_range, is_borne, is_settled, least_greatest, times_range,
    weight_range,
)
from sevenpins.touches import word_of
from tests.helpers import (
    ANYTHING, NOUGHT, WRONG_SCREWS, WRONG_WHOLES, X, Y, Z, assert_fraction, check_refusals, given, indexed, number,
    own_is_in, own_rank, own_system, pair, plus, screw, six, times, triple,
)
from tests.jigs import (
    NOUGHT_SCREW, WRONG_JIGS, JigDraws, Left, check_left, check_weights, own_jig_rows, own_made, told_otherwise,
    told_range, worth,
)
from tests.test_touches import own_led, own_placed_jig

TINY = Fraction(1, 10 ** 40)


def mixed(first, factor, second):
    """first + factor * second."""
    return screw(plus(six(first), times(factor, six(second))))


def own_weight_range(rows, push, index):
    """The ends of a row's weight: the others bear the push and the row's push, that many times."""
    others = rows[:index] + rows[index + 1:]
    own, both = rows[index]
    if not others:
        return own_alone(own, both, push)
    return Left(others).factors(push, own, None if both else Fraction(0))


def own_alone(own, both, push):
    """The ends where there is one row alone."""
    place = [at for at, value in enumerate(six(own)) if value][0]
    weight = -six(push)[place] / six(own)[place]
    right = plus(times(weight, six(own)), six(push)) == [0] * 6 and (both or weight >= 0)
    return (weight, weight) if right else "none"


def own_least_greatest(rows, push):
    """The least m: over moves beside which as many rows as can be have power 0, the power of the push over the sum
    of the powers of rows one way that are below 0, turned, and of those of rows both ways, all above 0."""
    left = Left(rows)
    if not left.does_bear(push):
        return None
    best = Fraction(0)
    for move in left.sides:
        total = Fraction(0)
        for own, both in rows:
            power = worth(own, move)
            total += abs(power) if both else max(-power, Fraction(0))
        if total:
            best = max(best, worth(push, move) / total)
    return best


class Case(unittest.TestCase):
    def check_borne(self, jig, rows, push, expected=None):
        """Whether a push is borne, by a paper either way."""
        borne, weights, move = is_borne(jig, push), bearing_weights(jig, push), breaking_move(jig, push)
        if expected is not None:
            self.assertIs(borne, expected)
        if borne:
            self.assertIs(borne, True)
            check_weights(self, rows, weights, times(-1, six(push)))
            self.assertIsNone(move)
        else:
            self.assertIs(borne, False)
            self.assertIsNone(weights)
            check_left(self, rows, move)
            self.assertGreater(worth(push, move), 0)
        return borne

    def check_ends(self, found):
        self.assertIs(type(found), tuple)
        self.assertEqual(len(found), 2)
        for end in found:
            if end is not None:
                assert_fraction(self, end)

    def jigs(self, seed, count, rows=8):
        draws = JigDraws(seed)
        for _ in range(count):
            jig = draws.small_jig(rows)
            yield draws, jig, own_jig_rows(jig)


class Borne(Case):
    def test_against_own_moves(self):
        seen = {True: 0, False: 0}
        for draws, jig, rows in self.jigs(161, 90):
            left = Left(rows)
            for push in (draws.push(jig), draws.push(jig), draws.plain_screw(), NOUGHT_SCREW):
                seen[self.check_borne(jig, rows, push, left.does_bear(push))] += 1
            self.assertIs(is_borne(push=push, jig=jig), True)
            self.assertEqual(bearing_weights(push=push, jig=jig), bearing_weights(jig, push))
            self.assertIsNone(breaking_move(push=push, jig=jig))
        self.assertGreater(min(seen.values()), 60)

    def test_large_jigs_and_numbers(self):
        draws = JigDraws(162)
        seen = {True: 0, False: 0}
        far = 10 ** 30
        for at in range(80):
            jig = draws.jig()
            if at % 8 == 0:
                jig = tuple(
                    ("groove",) + tuple(triple([draws.whole(-far, far) for _ in range(3)]) for _ in range(3))
                    for _ in range(12))
            rows = own_jig_rows(jig)
            for _ in range(3):
                seen[self.check_borne(jig, rows, draws.push(jig))] += 1
        self.assertGreater(min(seen.values()), 15)

    def test_held_and_kept_jigs(self):
        words = set()
        for draws, jig, rows in self.jigs(163, 80):
            word = word_of(jig)
            words.add(word)
            for push in (draws.screw(), draws.push(jig), draws.plain_screw()):
                if word == "held":
                    self.assertIs(is_borne(jig, push), True)
                if word == "kept":
                    spanned = own_system([own for own, _ in rows])
                    self.assertIs(is_borne(jig, push), own_is_in(spanned, push))
        self.assertEqual(len(words), 3)

    def test_lots(self):
        seen = {True: 0, False: 0}
        for draws, jig, rows in self.jigs(164, 100):
            lot = tuple(draws.push(jig) for _ in range(draws.whole(1, 6)))
            if draws.whole(0, 1):
                lot = tuple(push for push in lot if is_borne(jig, push)) or (NOUGHT_SCREW,)
            found = are_all_borne(jig, lot)
            self.assertIs(found, all(self.check_borne(jig, rows, push) for push in lot))
            self.assertIs(are_all_borne(lot=lot, jig=jig), found)
            self.assertIs(are_all_borne(jig, lot[::-1]), found)
            if found:
                shares = [Fraction(draws.whole(0, 5)) for _ in lot]
                total = sum(shares) or Fraction(1)
                mixture = [Fraction(0)] * 6
                for share, push in zip(shares, lot):
                    mixture = plus(mixture, times(share / total, six(push)))
                self.check_borne(jig, rows, screw(mixture), True)
            seen[found] += 1
        self.assertGreater(min(seen.values()), 10)

    def test_placed_and_told_otherwise(self):
        for draws, jig, rows in self.jigs(165, 50):
            placing, push = draws.placing(), draws.push(jig)
            other = own_placed_jig(jig, placing)
            self.check_borne(other, own_jig_rows(other), own_led(placing, push), is_borne(jig, push))
            stops = told_otherwise(jig)
            if len(stops) <= 12:
                self.check_borne(stops, own_jig_rows(stops), push, is_borne(jig, push))


class Factors(Case):
    def check_factors(self, jig, rows, push, other, expected):
        found = times_range(jig, push, other)
        self.assertEqual(found, told_range(expected))
        self.assertEqual(times_range(other=other, push=push, jig=jig), found)
        if found is None:
            for factor in (0, 1, Fraction(1, 7), 10 ** 9):
                self.check_borne(jig, rows, mixed(push, factor, other), False)
            return "none"
        self.check_ends(found)
        low = number(found[0])
        self.assertGreaterEqual(low, 0)
        self.check_borne(jig, rows, mixed(push, low, other), True)
        if low > 0:
            self.check_borne(jig, rows, mixed(push, low * (1 - TINY), other), False)
        if found[1] is None:
            self.check_borne(jig, rows, mixed(push, low + 10 ** 30, other), True)
            self.check_borne(jig, rows, other, True)
            return "endless"
        high = number(found[1])
        self.check_borne(jig, rows, mixed(push, high, other), True)
        self.check_borne(jig, rows, mixed(push, high + TINY, other), False)
        self.check_borne(jig, rows, mixed(push, (low + high) / 2, other), True)
        return "one" if low == high else "some"

    def test_times_range(self):
        seen = {}
        for draws, jig, rows in self.jigs(166, 120):
            left = Left(rows)
            for _ in range(2):
                push, other = draws.push(jig), draws.push(jig)
                if draws.whole(0, 2) == 0:
                    # Nearer to the edge of what is borne: more and more of a push is too much at last.
                    other = screw(times(-1, six(other)))
                kind = self.check_factors(jig, rows, push, other, left.factors(push, other))
                seen[kind] = seen.get(kind, 0) + 1
        self.assertEqual(set(seen), {"none", "endless", "one", "some"})
        self.assertGreater(min(seen.values()), 10)

    def test_told_factors(self):
        table = (("rest", tuple(triple(at) for at in ((1, 1, 0), (1, -1, 0), (-1, -1, 0), (-1, 1, 0))), Z),)
        rows = own_jig_rows(table)
        weight = screw([0, 0, -3, 0, 0, 0])
        beside = screw([0, 0, -1, 0, 2, 0])
        # A force down at (x, 0, 0) is borne up to x = 1: 3 at the middle and f at 2 go down at 2 f / (3 + f).
        self.assertEqual(self.check_factors(table, rows, weight, beside, (Fraction(0), Fraction(3))), "some")
        self.check_factors(table, rows, beside, weight, (Fraction(1, 3), None))
        self.check_factors(table, rows, weight, NOUGHT_SCREW, (Fraction(0), None))
        self.check_factors(table, rows, beside, NOUGHT_SCREW, "none")
        self.check_factors(table, rows, screw([0, 0, 1, 0, 0, 0]), beside, "none")
        self.check_factors(table, rows, screw([0, 0, 1, 0, 0, 0]), weight, (Fraction(1, 3), None))
        self.check_factors(table, rows, NOUGHT_SCREW, beside, (Fraction(0), Fraction(0)))
        self.assertEqual(clamp_range(table, weight, (beside, screw([0, 0, 0, 5, 0, 0]))), (pair(Fraction(5, 3)), None))

    def test_clamp_range(self):
        seen = {}
        for draws, jig, rows in self.jigs(167, 110):
            left, clamp = Left(rows), draws.push(jig)
            lot = tuple(draws.push(jig) for _ in range(draws.whole(1, 6)))
            if draws.whole(0, 1):
                # Pushes that enough of the clamp makes borne.
                lot = tuple(mixed(push, -draws.whole(0, 3), clamp) for push in lot if is_borne(jig, push)) or lot
            low, high, kind = Fraction(0), None, "some"
            for push in lot:
                ends = left.factors(push, clamp)
                if ends == "none":
                    kind = "none"
                    break
                low = max(low, ends[0])
                if ends[1] is not None:
                    high = ends[1] if high is None else min(high, ends[1])
            if kind == "none" or (high is not None and low > high):
                kind, expected = "none" if kind == "none" else "apart", None
            else:
                kind, expected = "some" if high is not None else "endless", told_range((low, high))
            found = clamp_range(jig, clamp, lot)
            self.assertEqual(found, expected)
            self.assertEqual(clamp_range(lot=lot, jig=jig, clamp=clamp), found)
            self.assertEqual(clamp_range(jig, clamp, lot[::-1] + lot[:6 - len(lot)]), found)
            seen[kind] = seen.get(kind, 0) + 1
            if found is not None:
                self.check_ends(found)
                for push in lot:
                    self.check_borne(jig, rows, mixed(push, low, clamp), True)
                    self.check_borne(jig, rows, mixed(push, low + 10 ** 9 if high is None else high, clamp), True)
                if low > 0:
                    self.assertFalse(all(is_borne(jig, mixed(push, low * (1 - TINY), clamp)) for push in lot))
                if high is not None:
                    self.assertFalse(all(is_borne(jig, mixed(push, high + TINY, clamp)) for push in lot))
        self.assertTrue({"none", "some", "endless"} <= set(seen))
        self.assertGreater(min(seen["none"], seen["some"], seen["endless"]), 5)

    def test_clamps_apart(self):
        # Each push of the lot is borne by some clamping, but by none both are.
        jig = (("stop", NOUGHT, Z),)
        up, down = screw([0, 0, 1, 0, 0, 0]), screw([0, 0, -1, 0, 0, 0])
        self.assertEqual(clamp_range(jig, down, (up,)), ((1, 1), None))
        self.assertEqual(clamp_range(jig, down, (up, screw([0, 0, 4, 0, 0, 0]), down)), ((4, 1), None))
        self.assertEqual(clamp_range(jig, up, (screw([0, 0, -4, 0, 0, 0]), down)), ((0, 1), (1, 1)))
        pinned = (("pin", NOUGHT, X),)
        lot = (screw([3, 0, -1, 0, 0, 0]), screw([0, 0, -2, 0, 0, 0]))
        self.assertEqual([clamp_range(pinned, up, (push,)) for push in lot], [((1, 1), (1, 1)), ((2, 1), (2, 1))])
        self.assertIsNone(clamp_range(pinned, up, lot))
        self.assertIsNone(clamp_range(pinned, up, lot[::-1]))

    def test_ranges_placed(self):
        for draws, jig, _ in self.jigs(168, 40):
            placing, push, other = draws.placing(), draws.push(jig), draws.push(jig)
            placed_one = own_placed_jig(jig, placing)
            led = [own_led(placing, told) for told in (push, other)]
            self.assertEqual(times_range(placed_one, led[0], led[1]), times_range(jig, push, other))
            self.assertEqual(clamp_range(placed_one, led[1], (led[0],)), clamp_range(jig, other, (push,)))
            self.assertIs(is_settled(placed_one, led[0]), is_settled(jig, push))
            cups = any(touch[0] == "cup" for touch in jig)
            if not cups:
                self.assertEqual(least_greatest(placed_one, led[0]), least_greatest(jig, push))
            for index in range(len(own_jig_rows(jig))):
                if not cups or index > 2 and jig[0][0] == "cup" and all(touch[0] != "cup" for touch in jig[1:]):
                    self.assertEqual(weight_range(placed_one, led[0], index), weight_range(jig, push, index))


class Weights(Case):
    def check_weight_ranges(self, jig, rows, push):
        """All ranges of weights; whether the push is settled by them."""
        settled = True
        for index, (own, both) in enumerate(rows):
            expected = own_weight_range(rows, push, index)
            found = weight_range(jig, push, index)
            self.assertEqual(found, told_range(expected))
            self.assertEqual(weight_range(index=index, jig=jig, push=push), found)
            if found is None:
                settled = False
                continue
            self.check_ends(found)
            settled = settled and found[0] == found[1] and found[0] is not None
        self.assertIs(is_settled(jig, push), settled)
        self.assertIs(is_settled(push=push, jig=jig), settled)
        return settled

    def test_weight_range_and_settled(self):
        seen = {}
        for draws, jig, rows in self.jigs(169, 70):
            if len(rows) > 7:
                continue
            for push in (draws.push(jig), draws.push(jig), NOUGHT_SCREW):
                settled = self.check_weight_ranges(jig, rows, push)
                borne = is_borne(jig, push)
                seen[settled, borne] = seen.get((settled, borne), 0) + 1
                if borne and own_rank([six(own) for own, _ in rows]) == len(rows):
                    self.assertTrue(settled)
                if word_of(jig) != "loose" and not all(both for _, both in rows):
                    self.assertFalse(settled)
        self.assertEqual(set(seen), {(True, True), (False, True), (False, False)})
        self.assertGreater(min(seen.values()), 15)

    def test_ends_without_end(self):
        vice = (("stop", NOUGHT, Z), ("stop", X, triple((0, 0, -1))), ("stop", NOUGHT, triple((0, 0, -1))))
        push = screw([0, 0, -4, 0, 0, 0])
        self.assertEqual([weight_range(vice, push, at) for at in range(3)],
                         [((4, 1), None), ((0, 1), (0, 1)), ((0, 1), None)])
        pins = (("pin", NOUGHT, Z), ("pin", NOUGHT, triple((0, 0, 2))), ("pin", X, Z))
        self.assertEqual([weight_range(pins, push, at) for at in range(3)],
                         [(None, None), (None, None), ((0, 1), (0, 1))])
        pulled = (("pin", NOUGHT, Z), ("stop", NOUGHT, triple((0, 0, 1))))
        self.assertEqual([weight_range(pulled, push, at) for at in range(2)], [(None, (4, 1)), ((0, 1), None)])
        self.assertEqual([is_settled(jig, push) for jig in (vice, pins, pulled, pins[1:], vice[:2], vice[1:])],
                         [False, False, False, True, True, False])
        # Noughts are a balance of the push 0, and others are there where rows are against each other.
        self.assertEqual([is_settled(jig, NOUGHT_SCREW) for jig in (vice, pins, pulled, pins[1:], vice[:2], vice[1:])],
                         [False, False, False, True, True, True])

    def test_independent_by_sums_only(self):
        # Rows that are not independent, and a push that has one balance all the same.
        jig = (("rest", (X, triple((2, 0, 0)), triple((3, 0, 0))), Z),)
        for at, settled in ((1, True), (3, True), (2, False), (Fraction(3, 2), False)):
            push = screw([0, 0, -1, 0, at, 0])
            self.assertIs(is_settled(jig, push), settled)
            self.check_weight_ranges(jig, own_jig_rows(jig), push)

    def test_weights_of_large_jigs(self):
        draws = JigDraws(170)
        ends = 0
        for _ in range(25):
            jig = draws.jig()
            rows = own_jig_rows(jig)
            push = screw(times(-1, own_made(rows, [(draws.whole(0, 2), 1) for _ in rows])))
            index = draws.whole(0, len(rows) - 1)
            low, high = weight_range(jig, push, index)
            weights = bearing_weights(jig, push)
            self.assertTrue(low is None or number(low) <= number(weights[index]))
            self.assertTrue(high is None or number(high) >= number(weights[index]))
            ends += low != high
            singles = [("pin" if both else "stop", at, own) for at, (own, both) in enumerate(rows) if at != index]
            if len(singles) > 12 or len(singles) == 0:
                continue
            others = tuple((word, foot(rows[at][0]), own[0]) for word, at, own in singles)
            for end, out in ((low, -1), (high, 1)):
                if end is None:
                    self.check_borne(others, own_jig_rows(others), mixed(push, out * 10 ** 20, rows[index][0]), True)
                    continue
                at_end = mixed(push, number(end), rows[index][0])
                self.check_borne(others, own_jig_rows(others), at_end, True)
                if rows[index][1] or out > 0 or end[0] > 0:
                    beyond = mixed(push, number(end) + out * TINY, rows[index][0])
                    self.check_borne(others, own_jig_rows(others), beyond, False)
        self.assertGreater(ends, 5)

    def test_least_greatest(self):
        seen = {"none": 0, "zero": 0, "some": 0}
        for draws, jig, rows in self.jigs(171, 60):
            for push in (draws.push(jig), draws.push(jig), NOUGHT_SCREW):
                found = least_greatest(jig, push)
                expected = own_least_greatest(rows, push)
                self.assertEqual(found, None if expected is None else pair(expected))
                self.assertEqual(least_greatest(push=push, jig=jig), found)
                if found is not None:
                    assert_fraction(self, found)
                seen["none" if found is None else "some" if found[0] else "zero"] += 1
        self.assertGreater(min(seen.values()), 8)

    def test_told_least_greatest(self):
        down = screw([0, 0, -6, 0, 0, 0])
        stop, pin = ("stop", NOUGHT, Z), ("pin", NOUGHT, Z)
        for jig, least in [
            ((stop,), 6), ((stop, stop), 3), ((stop, ("stop", NOUGHT, triple((0, 0, 2)))), 2),
            ((stop,) * 12, Fraction(1, 2)),
            ((pin,), 6), ((pin, pin, stop), 2), ((("pin", NOUGHT, triple((0, 0, -2))), stop), 2),
            ((("stop", NOUGHT, triple((0, 0, -1))),), None), ((stop, ("stop", NOUGHT, triple((0, 0, -5)))), 6),
            ((("rest", (X, triple((-1, 0, 0)), triple((0, 5, 0))), Z),), 3),
            ((("rest", (X, triple((-3, 0, 0))), Z),), Fraction(9, 2)),
        ]:
            found = least_greatest(jig, down)
            self.assertEqual(found, None if least is None else pair(least))
            self.assertEqual(found, None if least is None else pair(own_least_greatest(own_jig_rows(jig), down)))

    def test_weights_within_the_least_greatest(self):
        # No balance of a jig's weights has all of them below what is least, and some stays within it.
        for _, jig, rows in self.jigs(172, 40):
            push = screw(times(-1, own_made(rows, [(1, 1) for _ in rows])))
            least = least_greatest(jig, push)
            self.assertLessEqual(number(least), 1)
            weights = bearing_weights(jig, push)
            most = max(abs(number(weight)) for weight in weights)
            self.assertLessEqual(number(least), most)

    def test_greatest_jigs_in_time(self):
        draws = JigDraws(173)
        kinds = (("groove",), 12), (("cup",), 8), (("stop",), 12), (("pin",), 12), (("cup", "pin", "stop"), 12)
        for words, count in kinds:
            jig = draws.jig(count, 24, words)
            while len(jig) < count and len(own_jig_rows(jig)) < 22:
                jig += (draws.touch(words),)
            push, other = draws.push(jig), draws.screw()
            lot = tuple(draws.push(jig) for _ in range(6))
            for call in (
                lambda: bearing_weights(jig, push), lambda: times_range(jig, push, other),
                lambda: clamp_range(jig, other, lot), lambda: weight_range(jig, push, len(own_jig_rows(jig)) - 1),
                lambda: is_settled(jig, push), lambda: least_greatest(jig, push), lambda: are_all_borne(jig, lot),
            ):
                start = time.process_time()
                call()
                self.assertLess(time.process_time() - start, 5)


def foot(told):
    """A point of the line's axis."""
    line, moment = six(told)[:3], six(told)[3:]
    square = sum(value * value for value in line)
    cross = [line[1] * moment[2] - line[2] * moment[1], line[2] * moment[0] - line[0] * moment[2],
             line[0] * moment[1] - line[1] * moment[0]]
    return triple([value / square for value in cross])


def wrong_lots():
    good = (X, Y)
    found = [((), None), ([], None), ([good], None), ({good: 1}, None), (good, 0), ((good, [good]), 1)]
    found += [(value, 0 if isinstance(value, tuple) and value else None) for value in ANYTHING]
    found += [((good,) * place + (value, None), place) for place in (0, 5) for value in WRONG_SCREWS]
    found += [((good,) * 6 + (last,), 6) for last in (good, None)] + [((good,) * 60, 6), ((good, (X,), good), 1)]
    return found


class Refusals(Case):
    jigs = indexed(WRONG_JIGS, InvalidJig)
    few = indexed(WRONG_JIGS[::7], InvalidJig)
    pushes = given(WRONG_SCREWS, InvalidScrew)
    lots = indexed(wrong_lots(), InvalidLot)
    good = (("stop", Y, Z), ("cup", X))

    def test_pushes(self):
        for function in (is_borne, bearing_weights, breaking_move, is_settled, least_greatest):
            check_refusals(self, function, {"jig": self.good, "push": (X, Y)}, {"jig": self.jigs, "push": self.pushes})

    def test_lots(self):
        check_refusals(self, are_all_borne, {"jig": self.good, "lot": ((X, Y),)}, {"jig": self.few, "lot": self.lots})
        check_refusals(self, clamp_range, {"jig": self.good, "clamp": (X, Y), "lot": ((X, Y),)}, {
            "jig": self.few, "clamp": self.pushes, "lot": self.lots,
        })

    def test_two_pushes(self):
        check_refusals(self, times_range, {"jig": self.good, "push": (X, Y), "other": (Y, X)}, {
            "jig": self.few, "push": self.pushes, "other": self.pushes,
        })

    def test_indexes(self):
        indexes = given(WRONG_WHOLES + [-1, 4, 5, 10 ** 30, True, False], InvalidIndex)
        check_refusals(self, weight_range, {"jig": self.good, "push": (X, Y), "index": 3}, {
            "jig": self.few, "push": self.pushes, "index": indexes,
        })
        # The index is looked at, too, where the push is not borne, and it is one of a row, not of a touch.
        for push in ((NOUGHT, NOUGHT), (Z, NOUGHT), (Y, Z)):
            self.assertRaises(InvalidIndex, lambda: weight_range(self.good, push, 4))
            weight_range(self.good, push, 3)


if __name__ == "__main__":
    unittest.main()
