"""Promises over several parts: the same things told in one way and in another, and placed elsewhere ([2], [48])."""
import unittest
from fractions import Fraction

from sevenpins.blows import blown, energy, kept_blow, momentum, stop_blows, struck
from sevenpins.certificates import (
    certify_above, certify_blow, certify_jig, certify_mark, certify_move, certify_pitch, certify_push, certify_range,
    certify_screw, certify_springs, certify_stand, certify_touch,
)
from sevenpins.checker import accepts
from sevenpins.consoles import Console
from sevenpins.errors import Broken, InUse
from sevenpins.heaps import heap_bears, heap_breaking, heap_weights, heap_word, still_bodies
from sevenpins.joints import arm_bears, arm_moves, legs_moves, rates_for
from sevenpins.loads import bearing_weights, breaking_move, is_borne, is_settled
from sevenpins.marks import blind_move, errors_fit, fitting_move, is_settled_mark, mark_range, mark_shares
from sevenpins.pitches import has_pitch, pitch_count
from sevenpins.screws import line_at, power
from sevenpins.springs import are_steady, given_way, pushed_back, spring_energy
from sevenpins.stands import idle_push, is_lost, lost_count, screws_at, stand_rows
from sevenpins.systems import back_of, is_in, meeting, order_of, placed_system, system_of
from sevenpins.touches import comes_off, holding_weights, is_left, jig_rows, keeping, placed_jig, word_of
from sevenpins.turnings import placed, placed_screw, turned
from sevenpins.workshops import Workshop
from tests.claims import (
    blow_arguments, mark_arguments, move_arguments, pitch_arguments, push_arguments, range_arguments, screw_arguments,
    spring_arguments, stand_arguments, touch_arguments,
)
from tests.helpers import X, Y, Z, number, own_power, pair, screw, six, times, triple
from tests.jigs import NOUGHT_SCREW, JigDraws
from tests.test_blows import BodyDraws, own_energy
from tests.test_consoles import own_text, own_triples
from tests.test_joints import JointDraws, own_hand
from tests.test_stands import CraneDraws

ONE = (1, 1)


def negative(told):
    return screw(times(-1, six(told)))


# Everything placed.

def placed_joint(placing, joint):
    word, parts = joint[0], joint[1:]
    if word in ("turn", "screw", "cylinder"):
        return (word, placed(placing, parts[0]), turned(placing[0], parts[1])) + parts[2:]
    if word in ("slide", "plane"):
        return (word, turned(placing[0], parts[0]))
    return (word, placed(placing, parts[0])) if word == "ball" else joint


def placed_spots(placing, told):
    """Tuples of a point, a direction and something more: pins, springs; a mark is one of these without more."""
    return tuple((placed(placing, spot[0]), turned(placing[0], spot[1])) + spot[2:] for spot in told)


class Pins(unittest.TestCase):
    """Pins as a jig, as a gauge, as springs, and as the system of their pushes."""

    def test_four_ways_to_tell_pins(self):
        draws, seen = JigDraws(801), {True: 0, False: 0}
        for _ in range(60):
            spots = [(draws.point(), draws.way()) for _ in range(draws.whole(1, 9))]
            pushes = tuple(line_at(point, way) for point, way in spots)
            system, jig = system_of(pushes), tuple(("pin",) + spot for spot in spots)
            gauge = tuple(spot + ((pair(-abs(draws.small())), pair(abs(draws.small()))),) for spot in spots)
            springs = tuple(spot + (draws.pick((ONE, (1, 3), (7, 2))),) for spot in spots)
            full = order_of(system) == 6
            self.assertEqual(tuple(push for push, _ in jig_rows(jig)), pushes)
            self.assertEqual(keeping(jig), back_of(system))
            self.assertEqual(word_of(jig), "held" if full else "kept")
            self.assertIs(are_steady(springs), full)
            self.assertIsNotNone(fitting_move(gauge))
            for mark in [(draws.point(), draws.way())] + spots[:2]:
                push = line_at(mark[0], mark[1])
                inside = is_in(system, push)
                seen[inside] += 1
                self.assertIs(is_borne(jig, push), inside)
                self.assertIs(is_settled_mark(gauge, mark), inside)
                self.assertIs(given_way(springs, push) is not None, inside)
                self.assertIs(mark_range(gauge, mark) is not None, inside)
                self.assertIs(is_settled(jig, push), inside and len(system) == len(spots))
                if inside:
                    self.check_inside(jig, gauge, springs, mark, push)
                else:
                    blind = blind_move(gauge, mark)
                    self.assertTrue(is_left(jig, blind) and is_in(keeping(jig), blind))
                    self.assertEqual(spring_energy(springs, blind), (0, 1))
                    self.assertTrue(is_in(keeping(jig), breaking_move(jig, push)))
        self.assertGreater(min(seen.values()), 30)

    def check_inside(self, jig, gauge, springs, mark, push):
        # Shares of the mark are the opposites of a balance of its push, and the other way round.
        shares = mark_shares(gauge, mark)
        weights = tuple(pair(-number(share)) for share in shares)
        self.assertIs(accepts(("borne", jig, push), weights), True)
        balance = tuple(pair(-number(weight)) for weight in bearing_weights(jig, push))
        self.assertIs(accepts(("settled", gauge, mark), balance), True)
        # The forces of the springs are such shares, too.
        move = given_way(springs, push)
        forces = tuple(pair(number(strength) * own_power(line_at(point, way), move))
                       for point, way, strength in springs)
        self.assertIs(accepts(("settled", gauge, mark), forces), True)
        self.assertEqual(pushed_back(springs, move), negative(push))
        # What the pins feel of a move are errors that come with it.
        felt = tuple(power(line_at(point, way), move) for point, way, _ in gauge)
        self.assertIs(errors_fit(gauge, felt), True)

    def test_cups_and_ball_joints(self):
        draws = JigDraws(802)
        for _ in range(30):
            points = [draws.point() for _ in range(draws.whole(1, 4))]
            jig, legs = tuple(("cup", point) for point in points), tuple((("ball", point),) for point in points)
            self.assertEqual(keeping(jig), legs_moves(legs))
            self.assertEqual(word_of(jig) == "held", legs_moves(legs) == ())


class Jigs(unittest.TestCase):
    """A jig by itself, in a workshop, on a console, and as a heap of one body."""

    def test_four_ways_to_tell_a_jig(self):
        draws, seen = JigDraws(803), {"held": 0, "kept": 0, "loose": 0}
        for _ in range(60):
            jig = (draws.small_jig() if draws.whole(0, 2) else draws.jig(10))[:10]
            word, heap, shop = word_of(jig), (1, tuple((0, 1, touch) for touch in jig)), Workshop()
            console = Console(shop)
            seen[word] += 1
            self.assertEqual(console.say("put a: " + own_text(jig)), "done")
            self.assertEqual(shop.named("a"), jig)
            self.assertEqual(console.say("word a"), word)
            self.assertEqual(heap_word(heap), word)
            self.assertEqual(still_bodies(heap), (1,) if word == "held" else ())
            self.assertEqual(certify_jig(jig)[0], ("held" if word == "held" else "not held", jig))
            self.wished(shop, ("held", "a"), word == "held")
            for index in range(len(jig)):
                on = not comes_off(jig, index)
                self.wished(shop, ("on", "a", index), on)
                self.assertEqual(certify_touch(jig, index)[0][0], "on" if on else "off")
            for told in (draws.push(jig), draws.plain_screw()):
                borne, left = is_borne(jig, told), is_left(jig, told)
                self.wished(shop, ("borne", "a", told), borne)
                self.wished(shop, ("left", "a", told), left)
                self.assertEqual(console.say("bears a: " + own_triples(told)), "yes" if borne else "no")
                self.assertEqual(console.say("lets a: " + own_triples(told)), "yes" if left else "no")
                self.assertIs(heap_bears(heap, (told,)), borne)
                self.check_papers(jig, heap, told, borne)
            if shop.wishes:
                self.assertRaises(InUse, lambda: console.say("drop a"))
            self.assertEqual(console.say("jig a"), own_text(jig))
        self.assertGreater(min(seen.values()), 5)

    def wished(self, shop, wish, holds):
        many = len(shop.wishes)
        if holds:
            shop.wish(wish)
            self.assertEqual(shop.wishes[many:], (wish,))
        else:
            with self.assertRaises(Broken) as held:
                shop.wish(wish)
            self.assertEqual(held.exception.index, many)

    def check_papers(self, jig, heap, told, borne):
        """The papers of the one are those of the other."""
        if borne:
            self.assertIsNone(heap_breaking(heap, (told,)))
        else:
            moves = heap_breaking(heap, (told,))
            self.assertIs(accepts(("not borne", jig, told), moves[0]), True)
        weights = holding_weights(jig)
        self.assertIs(heap_weights(heap) is None, weights is None)

    def test_bears_all_exactly_if_held(self):
        draws = JigDraws(804)
        units = [screw([sign * (at == place) for at in range(6)]) for place in range(6) for sign in (1, -1)]
        for _ in range(50):
            jig = draws.small_jig()
            self.assertIs(all(is_borne(jig, unit) for unit in units), word_of(jig) == "held")
            if word_of(jig) == "kept":
                spanned = system_of(tuple(push for push, _ in jig_rows(jig)))
                for told in (draws.push(jig), draws.plain_screw(), draws.screw_in(spanned)):
                    self.assertIs(is_borne(jig, told), is_in(spanned, told))


class Bodies(unittest.TestCase):
    """Bodies on arms, among touches, and free."""

    def test_a_body_on_an_arm(self):
        draws, arms = BodyDraws(805), JointDraws(806)
        for _ in range(30):
            body, arm, blow = draws.body(), arms.narrow_arm(4), draws.blow()
            move = kept_blow(body, arm_moves(arm), blow)
            self.assertIsNotNone(rates_for(arm, move))
            # What the arm bears of the blow, without a drive, is the momentum less the blow.
            less = screw([a - b for a, b in zip(six(momentum(body, move)), six(blow))])
            self.assertTrue(is_in(arm_bears(arm), less))
            self.assertLessEqual(own_energy(body, move), own_energy(body, blown(body, blow)))

    def test_more_touches_leave_less_energy(self):
        draws = BodyDraws(807)
        for _ in range(40):
            jig, body, blow = draws.few_stops(), draws.body(), draws.blow()
            whole = number(energy(body, struck(jig, body, blow)))
            self.assertLessEqual(whole, number(energy(body, blown(body, blow))))
            for at in range(len(jig)):
                if len(jig) > 1:
                    less = jig[:at] + jig[at + 1:]
                    self.assertLessEqual(whole, number(energy(body, struck(less, body, blow))))
            kept = kept_blow(body, keeping(jig), blow)
            self.assertLessEqual(number(energy(body, kept)), whole)
            if word_of(jig) != "loose":
                self.assertEqual(kept, struck(jig, body, blow))
            # No move at all: exactly if the jig bears the blow.
            self.assertIs(struck(jig, body, blow) == NOUGHT_SCREW, is_borne(jig, blow))
            if is_borne(jig, blow):
                self.assertIs(accepts(("borne", jig, blow), stop_blows(jig, body, blow)), True)


class Cranes(unittest.TestCase):
    def test_cranes_as_arms(self):
        draws, seen = CraneDraws(808), {True: 0, False: 0}
        for _ in range(60):
            crane, index = draws.crane()
            lost = is_lost(crane, index, (0, 1))
            seen[lost] += 1
            self.assertIs(lost, order_of(arm_moves(crane)) < 6)
            self.assertEqual(stand_rows(crane, index)[0][0] == 0, lost)
            for stand in ((0, 1), (1, 2), None):
                system = system_of(screws_at(crane, index, stand))
                self.assertIs(is_lost(crane, index, stand), order_of(system) < 6)
                push = idle_push(crane, index, stand)
                if push is not None:
                    self.assertTrue(is_in(back_of(system), push))
            count = lost_count(crane, index)
            self.assertTrue(count == "all" or 0 <= count <= 4)
            if count == "all":
                self.assertTrue(lost)
        self.assertGreater(min(seen.values()), 10)


class Placed(unittest.TestCase):
    """The certificates of everything placed: the same words, and for pushes and moves what is placed."""

    def words(self, function, arguments, elsewhere):
        claim, _ = function(*arguments)
        other, paper = function(*elsewhere)
        self.assertEqual(other[0], claim[0])
        self.assertIs(accepts(other, paper), True)
        return claim, other

    def test_systems(self):
        draws = JigDraws(809)
        for system, told in screw_arguments(810, 25):
            placing = draws.placing()
            elsewhere = placed_system(placing, system)
            self.words(certify_screw, (system, told), (elsewhere, placed_screw(placing, told)))
            own, its = meeting(system, back_of(system)), meeting(elsewhere, back_of(elsewhere))
            self.assertEqual(its, placed_system(placing, own))
        for system, pitch in pitch_arguments(811, 25):
            elsewhere = placed_system(draws.placing(), system)
            self.words(certify_above, (system, pitch), (elsewhere, pitch))
            self.words(certify_pitch, (system, pitch), (elsewhere, pitch))
            self.assertEqual(pitch_count(elsewhere, pitch), pitch_count(system, pitch))
            self.assertIs(has_pitch(system, pitch), certify_pitch(system, pitch)[0][0] == "has pitch")

    def test_jigs(self):
        draws = JigDraws(812)
        for jig, push in push_arguments(813, 25):
            placing = draws.placing()
            elsewhere = placed_jig(jig, placing)
            self.words(certify_jig, (jig,), (elsewhere,))
            self.words(certify_push, (jig, push), (elsewhere, placed_screw(placing, push)))
        for jig, index in touch_arguments(814, 25):
            self.words(certify_touch, (jig, index), (placed_jig(jig, draws.placing()), index))

    def test_gauges(self):
        draws = JigDraws(815)
        for gauge, mark in mark_arguments(816, 20):
            placing = draws.placing()
            elsewhere, spot = placed_spots(placing, gauge), placed_spots(placing, (mark,))[0]
            self.words(certify_mark, (gauge, mark), (elsewhere, spot))
        for gauge, mark, low, high in range_arguments(817, 20):
            placing = draws.placing()
            elsewhere, spot = placed_spots(placing, gauge), placed_spots(placing, (mark,))[0]
            self.words(certify_range, (gauge, mark, low, high), (elsewhere, spot, low, high))
            self.assertEqual(mark_range(elsewhere, spot), mark_range(gauge, mark))

    def test_arms_and_cranes(self):
        draws = JigDraws(818)
        for arm, move in move_arguments(819, 25):
            placing = draws.placing()
            elsewhere = tuple(placed_joint(placing, joint) for joint in arm)
            self.words(certify_move, (arm, move), (elsewhere, placed_screw(placing, move)))
            self.assertEqual(arm_moves(elsewhere), placed_system(placing, own_hand(arm)))
        for crane, index, stand in stand_arguments(820, 25):
            placing = draws.placing()
            elsewhere = tuple(placed_joint(placing, joint) for joint in crane)
            self.words(certify_stand, (crane, index, stand), (elsewhere, index, stand))
            self.assertEqual(stand_rows(elsewhere, index), stand_rows(crane, index))
            self.assertEqual(lost_count(elsewhere, index), lost_count(crane, index))

    def test_blows_and_springs(self):
        draws = JigDraws(821)
        for jig, body, blow in blow_arguments(822, 20):
            placing = draws.placing()
            moved = tuple((placed(placing, point), mass) for point, mass in body)
            claim, other = self.words(
                certify_blow, (jig, body, blow), (placed_jig(jig, placing), moved, placed_screw(placing, blow)))
            self.assertEqual(other[4], placed_screw(placing, claim[4]))
        for springs, others in spring_arguments(823, 20):
            placing = draws.placing()
            self.words(certify_springs, (springs, others),
                       (placed_spots(placing, springs), placed_spots(placing, others)))


class Returned(unittest.TestCase):
    def test_what_is_returned_may_be_passed(self):
        """Whatever the size of its numbers."""
        far = Fraction(10 ** 120 + 7, 10 ** 90 + 3)
        jig = (("stop", triple((far, 1, 2)), Z), ("pin", X, triple((far, 1, far))), ("cup", triple((1, far, far))))
        body = tuple((triple((at, at * at * far, far + at % 2)), pair(far)) for at in range(4))
        blow = screw((far, 1, 2, 3, far, 5))
        claim, paper = certify_blow(jig, body, blow)
        self.assertIs(accepts(claim, paper), True)
        again = certify_blow(jig, body, claim[4])
        self.assertIs(accepts(*again), True)
        self.assertIs(accepts(*certify_push(jig, again[0][4])), True)
        self.assertIs(accepts(*certify_screw(keeping(jig), again[0][4])), True)
        self.assertIs(accepts(*certify_pitch(keeping(jig), (0, 1))), True)
        springs = tuple((point, Y, mass) for point, mass in body)
        move = given_way(springs, pushed_back(springs, again[0][4]))
        self.assertEqual(pushed_back(springs, move), negative(pushed_back(springs, again[0][4])))
        heap = (1, tuple((0, 1, touch) for touch in jig))
        self.assertIs(heap_bears(heap, (move,)), is_borne(jig, move))

    def test_equal_calls_return_equal_results(self):
        for function, drawn in (
            (certify_push, push_arguments(824, 8)), (certify_range, range_arguments(825, 8)),
            (certify_blow, blow_arguments(826, 8)), (certify_springs, spring_arguments(827, 8)),
            (certify_move, move_arguments(828, 8)), (certify_stand, stand_arguments(829, 8)),
        ):
            for arguments in drawn:
                self.assertEqual(function(*arguments), function(*arguments))


if __name__ == "__main__":
    unittest.main()
