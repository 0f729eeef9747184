"""Heaps of bodies ([38], [39])."""
import time
import unittest
from fractions import Fraction
from itertools import combinations

from sevenpins.errors import InvalidHeap, InvalidScrews
from sevenpins.heaps import (
    heap_balance, heap_bears, heap_breaking, heap_move, heap_weights, heap_word, is_heap, still_bodies,
)
from sevenpins.loads import is_borne
from sevenpins.touches import word_of
from tests.helpers import (
    ANYTHING, NOUGHT, WRONG_SCREWS, X, Y, Z, assert_fraction, assert_screw, check_refusals, indexed, inner, number,
    own_kernel, own_rank, plus, screw, six, times, triple, vector,
)
from tests.jigs import GOOD_TOUCHES, NOUGHT_SCREW, WRONG_TOUCHES, JigDraws, own_jig_rows, own_rows
from tests.test_touches import own_led, own_placed_jig

DOWN = triple((0, 0, -1))
UNITS = [screw([sign * (at == place) for at in range(6)]) for place in range(6) for sign in (1, -1)]


# Rows of heaps by the tests' own sums: 6 numbers for each body.

def own_heap_rows(heap):
    bodies, contacts = heap
    found = []
    for first, second, touch in contacts:
        for push, both in own_rows(touch):
            row = [Fraction(0)] * 6 * bodies
            for body, sign in ((first, -1), (second, 1)):
                for at, value in enumerate(six(push)):
                    if body:
                        row[6 * body - 6 + at] += sign * value
            found.append((row, both))
    return found


def flat(screws):
    return [value for told in screws for value in six(told)]


def crossed(values):
    """The numbers of pushes in the order in which those of moves meet them."""
    return [value for at in range(0, len(values), 6) for value in values[at + 3:at + 6] + values[at:at + 3]]


def heap_worth(pushes, moves):
    return inner(crossed(pushes), moves)


def own_left(rows, moves):
    return all(heap_worth(row, moves) == 0 if both else heap_worth(row, moves) >= 0 for row, both in rows)


def own_sum(rows, weights, width):
    total = [Fraction(0)] * width
    for (row, _), weight in zip(rows, weights):
        total = plus(total, times(number(weight), row))
    return total


class HeapLeft:
    """The moves that rows leave: sums of both signs of `still` and of weights from 0 on of `rays`."""

    def __init__(self, rows, width):
        values = [crossed(row) for row, _ in rows]
        self.rank = own_rank(values)
        self.still = own_kernel(values, width)
        self.rays = []
        for chosen in combinations(values, self.rank - 1) if self.rank else ():
            if own_rank(chosen) < self.rank - 1:
                continue
            for moves in own_kernel(chosen, width):
                if any(inner(value, moves) for value in values):
                    self.rays += [ray for ray in (moves, times(-1, moves)) if own_left(rows, ray)]
                    break

    def word(self, rows, width):
        if any(heap_worth(row, ray) > 0 for row, _ in rows for ray in self.rays):
            return "loose"
        return "held" if self.rank == width else "kept"

    def still_bodies(self, bodies):
        moves = self.still + self.rays
        return tuple(body for body in range(1, bodies + 1)
                     if not any(any(told[6 * body - 6:6 * body]) for told in moves))

    def does_bear(self, pushes):
        if any(heap_worth(pushes, moves) != 0 for moves in self.still):
            return False
        return all(heap_worth(pushes, ray) <= 0 for ray in self.rays)


# Heaps.

def opposite_touch(touch):
    """The touch with its directions turned about; cups and pins stay as good as they are."""
    if touch[0] == "cup":
        return touch
    if touch[0] == "groove":
        return touch[:2] + tuple(triple(times(-1, vector(way))) for way in touch[2:])
    return touch[:2] + (triple(times(-1, vector(touch[2]))),)


class HeapDraws(JigDraws):
    def ends(self, bodies):
        first = self.whole(0, bodies)
        return first, self.pick([at for at in range(bodies + 1) if at != first])

    def heap(self, most=10, rows=24, bodies=None, words=("stop", "stop", "rest", "groove", "pin", "cup")):
        bodies = self.whole(1, 3) if bodies is None else bodies
        found, left = [], rows
        for _ in range(self.whole(1, most)):
            touch = found[0][2] if found and self.random.randrange(8) == 0 else self.touch(words)
            if len(own_rows(touch)) <= left:
                found.append(self.ends(bodies) + (touch,))
                left -= len(own_rows(touch))
        return (bodies, tuple(found) if found else (self.ends(bodies) + (("stop", self.point(), self.way()),),))

    def pressed_heap(self, bodies=None):
        """Contacts and others against them: kept or held, or loose once one is left out."""
        bodies = self.whole(1, 3) if bodies is None else bodies
        found = []
        for _ in range(self.whole(1, 4)):
            first, second = self.ends(bodies)
            if self.random.randrange(3) == 0:
                found.append((first, second, ("cup", self.point())))
            else:
                touch = self.touch(("stop", "groove"))
                against = opposite_touch(touch)
                ends = (first, second) if self.random.randrange(2) else (second, first)
                found += [(first, second, touch), ends + (touch if ends != (first, second) else against,)]
        if len(found) > 1 and self.random.randrange(4) == 0:
            found.pop()
        return (bodies, tuple(found))

    def tied_heap(self, bodies=None, ties=2):
        """A row of bodies, each one tied to one before it by cups and pins; sometimes by too few."""
        bodies = self.whole(1, 3) if bodies is None else bodies
        found = []
        for body in range(1, bodies + 1):
            other = self.whole(0, body - 1)
            for touch in [("cup", self.plain())] * 1 + [("cup", self.plain()) for _ in range(ties - 1)]:
                found.append(((other, body) if self.random.randrange(2) else (body, other)) + (touch,))
            way = self.way()
            found.append((other, body, ("pin", self.plain(), way)))
        return (bodies, tuple(found))

    def small_heap(self, rows=7):
        """A heap with few rows."""
        kind = self.random.randrange(3)
        if kind == 0:
            return self.heap(5, rows)
        while True:
            found = self.pressed_heap() if kind == 1 else self.tied_heap(1 + self.random.randrange(2), 1)
            if len(own_heap_rows(found)) <= rows:
                return found

    def pushes(self, heap):
        """Pushes: any, or ones that the heap bears, or nearly."""
        kind, rows = self.random.randrange(5), own_heap_rows(heap)
        if kind == 0:
            return tuple(self.screw() for _ in range(heap[0]))
        weights = [(self.whole(-2, 2) if both else self.whole(0, 2), 1) for _, both in rows]
        if kind == 1:
            weights[0] = (weights[0][0] - 1, 1)
        made = times(-1, own_sum(rows, weights, 6 * heap[0]))
        return tuple(screw(made[at:at + 6]) for at in range(0, len(made), 6))


class Case(unittest.TestCase):
    def small(self, seed, count, rows=7):
        draws = HeapDraws(seed)
        for _ in range(count):
            heap = draws.small_heap(rows)
            yield draws, heap, own_heap_rows(heap)

    def large(self, seed, count):
        draws = HeapDraws(seed)
        for _ in range(count):
            kind = draws.random.randrange(3)
            heap = draws.heap() if kind == 0 else draws.pressed_heap() if kind == 1 else draws.tied_heap()
            if len(heap[1]) <= 10 and len(own_heap_rows(heap)) <= 24:
                yield draws, heap, own_heap_rows(heap)

    def check_weights(self, rows, weights, made):
        self.assertIs(type(weights), tuple)
        self.assertEqual(len(weights), len(rows))
        for (_, both), weight in zip(rows, weights):
            assert_fraction(self, weight)
            self.assertTrue(both or weight[0] >= 0)
        self.assertEqual(own_sum(rows, weights, len(made)), made)

    def check_moves(self, heap, rows, moves):
        self.assertIs(type(moves), tuple)
        self.assertEqual(len(moves), heap[0])
        for move in moves:
            assert_screw(self, move)
        self.assertTrue(own_left(rows, flat(moves)))

    def check_pushes(self, heap, rows, pushes, expected=None):
        """Whether pushes are borne, by a paper either way."""
        borne, weights, moves = heap_bears(heap, pushes), heap_balance(heap, pushes), heap_breaking(heap, pushes)
        if expected is not None:
            self.assertIs(borne, expected)
        if borne:
            self.assertIs(borne, True)
            self.assertIsNone(moves)
            self.check_weights(rows, weights, times(-1, flat(pushes)))
        else:
            self.assertIs(borne, False)
            self.assertIsNone(weights)
            self.check_moves(heap, rows, moves)
            self.assertGreater(heap_worth(flat(pushes), flat(moves)), 0)
        self.assertIs(heap_bears(pushes=pushes, heap=heap), borne)
        self.assertEqual(heap_balance(pushes=pushes, heap=heap), weights)
        self.assertEqual(heap_breaking(pushes=pushes, heap=heap), moves)
        return borne

    def check_word(self, heap, rows, expected=None):
        word, weights, moves = heap_word(heap), heap_weights(heap), heap_move(heap)
        self.assertIn(word, ("held", "kept", "loose"))
        if expected is not None:
            self.assertEqual(word, expected)
        width, rank = 6 * heap[0], own_rank([row for row, _ in rows])
        if word == "loose":
            self.assertIsNone(weights)
            # All rows one way at once are not borne: so some left move takes one off.
            total = own_sum(rows, [(0 if both else 1, 1) for _, both in rows], width)
            self.check_pushes(heap, rows, tuple(screw(total[at:at + 6]) for at in range(0, width, 6)), False)
        else:
            self.check_weights(rows, weights, [0] * width)
            self.assertTrue(all(both or weight[0] > 0 for (_, both), weight in zip(rows, weights)))
            self.assertEqual(word == "held", rank == width)
        if word == "held":
            self.assertIsNone(moves)
        else:
            self.check_moves(heap, rows, moves)
            self.assertTrue(any(flat(moves)))
        self.assertEqual((heap_word(heap=heap), heap_weights(heap=heap), heap_move(heap=heap)), (word, weights, moves))
        return word

    def check_still(self, heap, rows, expected=None):
        """A body is still exactly if all pushes on it alone are borne: six and their opposites are enough."""
        found = still_bodies(heap)
        self.assertIs(type(found), tuple)
        if expected is not None:
            self.assertEqual(found, expected)
        for body in range(1, heap[0] + 1):
            borne = []
            for unit in UNITS:
                pushes = tuple(unit if at == body else NOUGHT_SCREW for at in range(1, heap[0] + 1))
                borne.append(self.check_pushes(heap, rows, pushes))
            self.assertEqual(body in found, all(borne))
        self.assertEqual(sorted(set(found)), list(found))
        self.assertTrue(all(type(body) is int and 1 <= body <= heap[0] for body in found))
        self.assertEqual(still_bodies(heap=heap), found)
        return found


class Words(Case):
    def test_against_own_moves(self):
        seen = {}
        for draws, heap, rows in self.small(301, 150):
            left = HeapLeft(rows, 6 * heap[0])
            word = self.check_word(heap, rows, left.word(rows, 6 * heap[0]))
            self.assertEqual(still_bodies(heap), left.still_bodies(heap[0]))
            for _ in range(3):
                pushes = draws.pushes(heap)
                self.check_pushes(heap, rows, pushes, left.does_bear(flat(pushes)))
            seen[word, heap[0]] = seen.get((word, heap[0]), 0) + 1
        for bodies in (1, 2, 3):
            for word in ("kept", "loose"):
                self.assertGreater(seen[word, bodies], 3)

    def test_large_heaps(self):
        seen = {}
        for draws, heap, rows in self.large(302, 60):
            word, still = self.check_word(heap, rows), self.check_still(heap, rows)
            self.assertEqual(word == "held", still == tuple(range(1, heap[0] + 1)))
            seen[word, len(still) > 0] = seen.get((word, len(still) > 0), 0) + 1
            for _ in range(4):
                self.check_pushes(heap, rows, draws.pushes(heap))
        self.assertGreater(seen["held", True], 5)
        self.assertGreater(seen["kept", True], 1)
        self.assertGreater(seen["kept", False], 3)
        self.assertGreater(seen["loose", False], 10)

    def test_still_beside_loose(self):
        draws = HeapDraws(303)
        for _ in range(5):
            tied = draws.tied_heap(1, 2)
            other = draws.touch(("stop", "rest", "groove"))
            for bodies, contact in ((2, (1, 2, other)), (2, (2, 0, other)), (3, (3, 2, other)), (3, (2, 3, other))):
                heap = (bodies, tied[1] + (contact,))
                rows = own_heap_rows(heap)
                first = self.check_still((1, tied[1]), own_heap_rows((1, tied[1])))
                self.assertEqual(self.check_still(heap, rows), first)
                self.assertEqual(self.check_word(heap, rows), "loose")

    def test_still_by_rows_one_way_beside_one_that_comes_off(self):
        firm = (("cup", NOUGHT), ("stop", Y, Z), ("stop", Z, X), ("stop", X, Y),
                ("stop", triple((Fraction(1, 2), Fraction(1, 2), -1)), triple((1, -1, 0))))
        stop = ("stop", NOUGHT, Z)
        for bodies, held, lone in ((2, 1, (1, 2)), (2, 2, (1, 2)), (3, 2, (2, 3)), (3, 1, (3, 2)), (3, 3, (0, 1))):
            contacts = tuple((0, held, touch) for touch in firm) + (lone + (stop,),)
            for told in (contacts, contacts[::-1]):
                heap = (bodies, told)
                self.assertEqual(self.check_still(heap, own_heap_rows(heap)), (held,))
                self.check_word(heap, own_heap_rows(heap), "loose")
        short = (1, tuple((0, 1, touch) for touch in firm[:4]))
        self.check_still(short, own_heap_rows(short), ())

    def test_still_beside_free_ones(self):
        cups = tuple(("cup", point) for point in (X, Y, Z))
        for bodies in (1, 2, 3):
            for held in range(1, bodies + 1):
                heap = (bodies, tuple((held, 0, cup) for cup in cups))
                self.check_still(heap, own_heap_rows(heap), (held,))

    def test_bodies_that_no_contact_names(self):
        for _, heap, rows in self.small(304, 25):
            if heap[0] < 3:
                wider = (heap[0] + 1, heap[1])
                self.assertNotEqual(self.check_word(wider, own_heap_rows(wider)), "held")
                self.assertEqual(still_bodies(wider), still_bodies(heap))
                moves = HeapLeft(own_heap_rows(wider), 6 * wider[0]).still
                self.assertTrue(any(any(told[-6:]) for told in moves))
                lone = tuple(NOUGHT_SCREW for _ in range(heap[0])) + ((X, NOUGHT),)
                self.check_pushes(wider, own_heap_rows(wider), lone, False)

    def test_told_heaps(self):
        table = ("rest", tuple(triple(point) for point in ((1, 1, 0), (1, -1, 0), (-1, -1, 0), (-1, 1, 0))), Z)
        pile = (2, ((0, 1, table), (1, 2, ("cup", Z))))
        self.check_word(pile, own_heap_rows(pile), "loose")
        self.check_still(pile, own_heap_rows(pile), ())
        heavy, sole = (triple((0, 0, -4)), NOUGHT), (DOWN, NOUGHT)
        self.check_pushes(pile, own_heap_rows(pile), (heavy, sole), True)
        self.assertEqual(heap_balance(pile, (heavy, sole))[4:], ((0, 1), (0, 1), (1, 1)))
        self.check_pushes(pile, own_heap_rows(pile), (sole, heavy), True)
        self.check_pushes(pile, own_heap_rows(pile), (heavy, screw((0, 0, -1, 1, 0, 0))), False)
        # A body between two fixed stops along one line: kept; a stop on one side alone: loose.
        squeezed = (1, ((0, 1, ("stop", NOUGHT, Z)), (1, 0, ("stop", NOUGHT, Z))))
        self.check_word(squeezed, own_heap_rows(squeezed), "kept")
        self.check_word((1, squeezed[1][:1]), own_heap_rows((1, squeezed[1][:1])), "loose")
        # Three bodies in a row between two walls: kept, but none is still.
        chain = (3, ((0, 1, ("stop", NOUGHT, X)), (1, 2, ("stop", X, X)), (2, 3, ("stop", X, X)),
                     (3, 0, ("stop", X, X))))
        self.check_word(chain, own_heap_rows(chain), "kept")
        self.check_still(chain, own_heap_rows(chain), ())
        self.check_pushes(chain, own_heap_rows(chain), (NOUGHT_SCREW, (X, NOUGHT), NOUGHT_SCREW), True)
        self.check_word((3, chain[1][:3]), own_heap_rows((3, chain[1][:3])), "loose")

    def test_a_body_tied_to_one_that_is_held(self):
        cups = tuple(("cup", point) for point in (X, Y, Z))
        held = (2, tuple((0, 1, cup) for cup in cups) + tuple((2, 1, cup) for cup in cups))
        self.check_word(held, own_heap_rows(held), "held")
        self.check_still(held, own_heap_rows(held), (1, 2))
        loose = (2, held[1][3:])
        self.check_word(loose, own_heap_rows(loose), "kept")
        self.check_still(loose, own_heap_rows(loose), ())
        wheel = (2, held[1][:3] + ((1, 2, ("cup", X)), (1, 2, ("cup", Y))))
        self.check_word(wheel, own_heap_rows(wheel), "kept")
        self.check_still(wheel, own_heap_rows(wheel), (1,))
        only = (3, tuple((0, 3, cup) for cup in cups))
        self.check_still(only, own_heap_rows(only), (3,))


class Otherwise(Case):
    def test_contacts_from_either_end(self):
        draws = HeapDraws(305)
        for _ in range(25):
            heap = draws.heap(6, 14) if draws.random.randrange(2) else draws.pressed_heap()
            other = (heap[0], tuple((second, first, opposite_touch(touch)) for first, second, touch in heap[1]))
            self.assertEqual(self.check_word(other, own_heap_rows(other)), heap_word(heap))
            self.assertEqual(still_bodies(other), still_bodies(heap))
            pushes = draws.pushes(heap)
            self.assertIs(heap_bears(other, pushes), heap_bears(heap, pushes))
            if all(touch[0] != "cup" for _, _, touch in heap[1]):
                self.assertEqual(own_heap_rows(other), own_heap_rows(heap))

    def test_a_contact_twice_and_another_order(self):
        for draws, heap, _ in self.small(306, 25):
            twice = (heap[0], heap[1] + heap[1][:1])
            turned = (heap[0], heap[1][::-1])
            pushes = draws.pushes(heap)
            for other in (twice, turned):
                self.assertEqual(self.check_word(other, own_heap_rows(other)), heap_word(heap))
                self.assertEqual(still_bodies(other), still_bodies(heap))
                self.assertIs(heap_bears(other, pushes), heap_bears(heap, pushes))

    def test_other_numbers_for_the_bodies(self):
        for draws, heap, _ in self.small(307, 20):
            bodies = heap[0]
            turned = (bodies, tuple((first and bodies + 1 - first, second and bodies + 1 - second, touch)
                                    for first, second, touch in heap[1]))
            self.assertEqual(heap_word(turned), heap_word(heap))
            self.assertEqual(still_bodies(turned), tuple(sorted(bodies + 1 - body for body in still_bodies(heap))))
            pushes = draws.pushes(heap)
            self.assertIs(heap_bears(turned, pushes[::-1]), heap_bears(heap, pushes))

    def test_one_body_and_a_jig(self):
        draws = HeapDraws(308)
        seen = set()
        for _ in range(60):
            jig = draws.small_jig(9)[:10] if draws.random.randrange(2) else draws.jig(10, 24)
            heap = (1, tuple((0, 1, touch) for touch in jig))
            word = self.check_word(heap, own_heap_rows(heap), word_of(jig))
            seen.add(word)
            self.assertEqual(still_bodies(heap), (1,) if word == "held" else ())
            back = (1, tuple((1, 0, opposite_touch(touch)) for touch in jig))
            self.assertEqual(heap_word(back), word)
            for _ in range(3):
                push = draws.push(jig)
                self.check_pushes(heap, own_jig_rows_flat(jig), (push,), is_borne(jig, push))
        self.assertEqual(seen, {"held", "kept", "loose"})

    def test_placed(self):
        draws = HeapDraws(309)
        for _ in range(20):
            heap, placing = draws.small_heap(), draws.placing()
            touches = own_placed_jig([touch for _, _, touch in heap[1]], placing)
            moved = (heap[0], tuple(contact[:2] + (touch,) for contact, touch in zip(heap[1], touches)))
            self.assertEqual(heap_word(moved), heap_word(heap))
            self.assertEqual(still_bodies(moved), still_bodies(heap))
            pushes = draws.pushes(heap)
            led = tuple(own_led(placing, push) for push in pushes)
            self.assertIs(heap_bears(moved, led), heap_bears(heap, pushes))


def own_jig_rows_flat(jig):
    return [(six(push), both) for push, both in own_jig_rows(jig)]


class Great(Case):
    def full_heap(self, draws, words, far=None):
        found, left = [], 24
        while left and len(found) < 10:
            touch = draws.touch(words if left > 6 else ("stop",))
            if far:
                parts = [triple([Fraction(draws.whole(-far, far), draws.whole(1, far)) for _ in range(3)])
                         for _ in touch[1:]]
                touch = (touch[0],) + tuple(parts)
            if len(own_rows(touch)) <= left:
                found.append(draws.ends(3) + (touch,))
                left -= len(own_rows(touch))
        return (3, tuple(found))

    def test_greatest_heaps_in_time(self):
        draws = HeapDraws(310)
        for words, far in ((("groove", "cup", "rest"), None), (("groove", "cup"), 10 ** 9), (("groove",), 10 ** 9)):
            for _ in range(2):
                heap = self.full_heap(draws, words, far)
                self.assertTrue(is_heap(heap))
                rows, began = own_heap_rows(heap), time.process_time()
                for call in (heap_word, heap_move, heap_weights, still_bodies):
                    call(heap)
                heap_breaking(heap, draws.pushes(heap))
                self.assertLess(time.process_time() - began, 5)
                self.check_word(heap, rows)
                self.check_pushes(heap, rows, draws.pushes(heap))

    def test_squeezed_rows_of_bodies(self):
        draws = HeapDraws(311)
        points = tuple(triple(point) for point in ((1, 1, 0), (1, -1, 0), (-1, -1, 0), (-1, 1, 0), (0, 2, 0)))
        tower = [(0, 1, ("rest", points, Z)), (1, 2, ("rest", points, Z)), (2, 3, ("rest", points, Z)),
                 (3, 0, ("rest", points[:4], Z))]
        heap = (3, tuple(tower))
        self.check_word(heap, own_heap_rows(heap), "kept")
        self.check_still(heap, own_heap_rows(heap), ())
        cups = tuple((at, at + 1, ("cup", draws.plain())) for at in range(3))
        heap = (3, tuple(tower[:3]) + cups[:3])
        rows = own_heap_rows(heap)
        self.assertEqual(len(rows), 24)
        self.check_word(heap, rows)
        self.check_still(heap, rows)


# Wrong heaps.

GOOD = (2, ((0, 1, GOOD_TOUCHES[0]), (1, 2, GOOD_TOUCHES[4])))


def wrong_contacts():
    stop = GOOD_TOUCHES[0]
    found = list(ANYTHING) + [stop, (0, 1), (0, 1, stop, stop), [0, 1, stop], (0, stop, 1), (stop, 0, 1), (0, 0, stop)]
    found += [(1, 1, stop), (0, 3, stop), (3, 1, stop), (-1, 1, stop), (0, -1, stop), (True, 0, stop), (0, True, stop)]
    found += [(False, 1, stop), (None, 1, stop), (0, "1", stop), ((0, 1), 1, stop), (0, (1, 1), stop), (0, 1, [stop])]
    found += [(0, 1, (stop,)), (0, 1, ("turn", Y, Z)), {0: 1}, (0, 10 ** 30, stop)]
    return found + [(0, 1, touch) for touch in WRONG_TOUCHES]


def wrong_heaps():
    """Pairs of what is no heap and the index that is kept."""
    contact, rest = (0, 1, GOOD_TOUCHES[0]), (1, 2, GOOD_TOUCHES[5])
    found = [(value, None) for value in ANYTHING]
    found += [(value, None) for value in [
        (2, ()), (2,), (2, (contact,), 1), [2, (contact,)], (2, [contact]), ((contact,), 2), (0, (contact,)),
        (4, (contact,)), (-1, (contact,)), (True, (contact,)), (None, (contact,)), ("2", (contact,)),
        ((2,), (contact,)), (10 ** 30, (contact,)), (contact, contact), (2, None), (2, {contact: 1}), (2, "ab"),
    ]]
    found += [((2, (contact,) * place + (wrong, None)), place) for place in (0, 9) for wrong in wrong_contacts()]
    found += [((2, (contact,) * 10 + (last,)), 10) for last in (contact, None, rest)]
    found += [((2, (rest,) * 4 + (last,)), 4) for last in (contact, None, (1, 0, ("cup", X)))]
    cup, groove = (0, 1, ("cup", X)), (0, 1, ("groove", X, Y, Z))
    found.append(((2, (rest, rest, rest, cup, groove, groove)), 5))
    found += [((1, (contact, rest)), 1), ((2, (contact, contact, None) + (rest,) * 5), 2), ((2, contact), 0)]
    return found


WRONG_HEAPS = wrong_heaps()


def wrong_pushes():
    """Pairs of what is no tuple of two pushes and the index that is kept."""
    push = (X, Y)
    found = [(value, None) for value in ANYTHING if not isinstance(value, tuple) or len(value) != 2]
    found += [((), None), ((push,), None), ((push,) * 3, None), ([push, push], None), ((push, push, None), None)]
    found += [((value, None), 0) for value in WRONG_SCREWS] + [((push, value), 1) for value in WRONG_SCREWS]
    return found + [(push, 0), ((None, None), 0), ((1, 2), 0)]


class Refusals(Case):
    def test_is_heap(self):
        for value, _ in WRONG_HEAPS:
            self.assertIs(is_heap(value), False, value)
        for draws, heap, _ in self.large(312, 40):
            self.assertIs(is_heap(heap), True)
        stop, rest = GOOD_TOUCHES[0], GOOD_TOUCHES[5]
        for heap in (GOOD, (1, ((0, 1, stop),) * 10), (3, ((3, 0, rest),) * 4), (2, ((2, 1, ("cup", X)),) * 8)):
            self.assertIs(is_heap(value=heap), True)

    def test_heaps(self):
        for function in (heap_word, heap_move, heap_weights, still_bodies):
            check_refusals(self, function, {"heap": GOOD}, {"heap": indexed(WRONG_HEAPS, InvalidHeap)})

    def test_pushes(self):
        for function in (heap_bears, heap_balance, heap_breaking):
            check_refusals(self, function, {"heap": GOOD, "pushes": ((X, Y), NOUGHT_SCREW)}, {
                "heap": indexed(WRONG_HEAPS[::7], InvalidHeap), "pushes": indexed(wrong_pushes(), InvalidScrews),
            })

    def test_as_many_pushes_as_bodies(self):
        touch = ("stop", NOUGHT, Z)
        for bodies in (1, 2, 3):
            heap = (bodies, ((0, bodies, touch),))
            for many in range(5):
                pushes = ((X, Y),) * many
                if many == bodies:
                    self.assertIs(heap_bears(heap, pushes), False)
                else:
                    with self.assertRaises(InvalidScrews) as held:
                        heap_bears(heap, pushes)
                    self.assertIsNone(held.exception.index)


if __name__ == "__main__":
    unittest.main()
