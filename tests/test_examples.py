"""The examples of the document, in its order: names that an example makes hold in those behind it."""
import unittest

from sevenpins.errors import ScrewError

TRIPLES = """
>>> from sevenpins.triples import cross, dot, fraction_of, is_direction, is_fraction, is_triple, plain_direction, triple_sum, triple_times
>>> zero, half, one, two, less = (0, 1), (1, 2), (1, 1), (2, 1), (-1, 1)
>>> o, x, y, z = (zero, zero, zero), (one, zero, zero), (zero, one, zero), (zero, zero, one)
>>> [is_fraction((2, 4)), is_triple(o), is_direction(o), is_triple((1, 2, 3)), fraction_of(6, -4), dot(x, ((3, 2), (5, 1), (0, 1))), cross(x, y) == z, cross(y, x)]
[False, True, False, False, (-3, 2), (3, 2), True, ((0, 1), (0, 1), (-1, 1))]
>>> [triple_sum(x, triple_times(y, (1, 2))), plain_direction(((0, 1), (-1, 2), (1, 3))), plain_direction(triple_times(z, (-7, 3))) == z]
[((1, 1), (1, 2), (0, 1)), ((0, 1), (3, 1), (-2, 1)), True]
"""

SCREWS = """
>>> from sevenpins.screws import apart_square, axis_point, is_line, is_screw, line_at, moment_at, nearest_points, pitch_of, power, screw_about, screw_sum, screw_times, slide_along
>>> [line_at(x, y) == (y, z), slide_along(z) == (o, z), is_line((o, z)), is_line((y, z)), is_screw((x, 1)), pitch_of(screw_about(x, z, (2, 1))), pitch_of((o, z)), axis_point(line_at(x, y)) == x]
[True, True, False, True, False, (2, 1), None, True]
>>> [power(line_at(o, x), slide_along(x)), power(line_at(y, x), line_at(o, z)), moment_at(line_at(o, z), x) == y, screw_about(x, z, (2, 1)), pitch_of(screw_sum(line_at(o, x), line_at(z, y)))]
[(1, 1), (-1, 1), True, (((0, 1), (0, 1), (1, 1)), ((0, 1), (-1, 1), (2, 1))), (-1, 2)]
>>> [nearest_points(line_at(o, x), line_at(z, y)) == (o, z), apart_square(line_at(o, x), line_at(z, y)), apart_square(line_at(o, x), line_at(z, x)), screw_times((y, z), (-1, 2))]
[True, (1, 1), (1, 1), (((0, 1), (-1, 2), (0, 1)), ((0, 1), (0, 1), (-1, 2)))]
"""

TURNINGS = """
>>> from sevenpins.turnings import back_placing, back_turning, is_turning, joined_placings, joined_turnings, placed, placed_screw, turned, turning_of
>>> quarter, aside = (1, 0, 0, 1), ((1, 0, 0, 1), x)
>>> [is_turning((2, 0, 0, 2)), is_turning((0, -1, 0, 0)), turning_of((-2, 0, 0, 4)), turned(quarter, x) == y, turned((2, 1, 0, 0), y), joined_turnings(quarter, quarter), back_turning(quarter)]
[False, False, (1, 0, 0, -2), True, ((0, 1), (3, 5), (4, 5)), (0, 0, 0, 1), (1, 0, 0, -1)]
>>> [placed(aside, x), back_placing(aside) == ((1, 0, 0, -1), y), joined_placings(aside, back_placing(aside)) == ((1, 0, 0, 0), o), joined_placings(aside, aside), placed_screw(aside, (x, o)) == (y, z)]
[((1, 1), (1, 1), (0, 1)), True, True, ((0, 0, 0, 1), ((1, 1), (1, 1), (0, 1))), True]
"""

SYSTEMS = """
>>> from sevenpins.screws import line_at, slide_along
>>> from sevenpins.systems import back_of, is_in, joined_systems, meeting, order_of, resting_at, screws_in, shares_of, slides_in, system_of
>>> origin, ahead, left, up = o, x, y, z
>>> hinge, far = line_at(origin, up), line_at(ahead, up)
>>> pair = system_of((far, hinge, far))
>>> [pair == ((up, origin), (origin, left)), slides_in(pair) == ((origin, left),), shares_of(pair, line_at((half, zero, zero), up)), shares_of(pair, slide_along(up)), is_in(pair, hinge)]
[True, True, ((1, 1), (-1, 2)), None, True]
>>> [order_of(back_of(pair)), back_of(back_of(pair)) == pair, resting_at(pair, origin) == (hinge,), meeting(pair, system_of((hinge, slide_along(up)))) == (hinge,), order_of(joined_systems(pair, back_of(pair))), order_of(screws_in(back_of(()), origin, up)), order_of(resting_at(back_of(()), left))]
[4, True, True, True, 4, 3, 3]
"""

LINES = """
>>> from sevenpins.lines import do_cross, line_through, lines_across
>>> axle, beam = line_through(origin, ahead), line_through(origin, left)
>>> posts = (line_at((one, one, zero), up), line_at((two, one, zero), up))
>>> [axle == (ahead, origin), line_through(ahead, origin) == axle, do_cross(axle, beam), do_cross(axle, line_at(left, up)), do_cross(posts[0], posts[1]), lines_across((axle, beam) + posts), lines_across((axle, beam)), lines_across((axle, beam) + posts + (line_at(left, ahead),)), lines_across((axle, beam) + posts + (line_at(((5, 1), zero, one), left),))]
[True, True, True, False, True, 'two', 'endless', 'one', 'none']
"""

PITCHES = """
>>> from sevenpins.pitches import crossing_line, greatest_near, has_pitch, is_open, least_near, pitch_count, principal_counts, signs_at
>>> ring = system_of((line_at(origin, ahead), line_at(up, left)))
>>> [signs_at(ring, (0, 1)), signs_at(ring, (1, 2)), signs_at(ring, (1, 1)), principal_counts(ring, (0, 1)), pitch_count(ring, (0, 1)), pitch_count(ring, (1, 2)), pitch_count(ring, (1, 1)), has_pitch(ring, (-1, 2))]
[(1, 0, 1), (0, 1, 1), (0, 0, 2), (1, 0, 1), 'two', 'one', 'none', True]
>>> [least_near(ring, 10), greatest_near(ring, 10), least_near(ring, 1), greatest_near(ring, 1), crossing_line(ring) == hinge, is_open(pair), pitch_count(pair, (0, 1)), crossing_line(pair), least_near(slides_in(pair), 1)]
[-5, 5, -1, 0, True, False, 'endless', None, None]
>>> slack = system_of((hinge, slide_along(up)))
>>> [is_open(slack), pitch_count(slack, (3, 1)), greatest_near(slack, 1), principal_counts(slack, (0, 1))]
[True, 'one', 'all', None]
"""

JOINTS = """
>>> from sevenpins.joints import arm_bears, arm_moves, barring_push, bears_of, idle_order, legs_moves, moves_of, rates_for
>>> elbow = (("turn", origin, up), ("turn", ahead, up))
>>> [moves_of(("screw", origin, up, half)) == ((up, triple_times(up, half)),), order_of(moves_of(("ball", left))), order_of(bears_of(("cylinder", origin, up))), moves_of(("plane", up)) == system_of((hinge, slide_along(ahead), slide_along(left)))]
[True, 3, 4, True]
>>> [arm_moves(elbow) == pair, rates_for(elbow, slide_along(left)), rates_for(elbow, slide_along(up)), barring_push(elbow, slide_along(left)), idle_order(elbow), idle_order(elbow + (("turn", left, up),)), idle_order(elbow + elbow)]
[True, (((1, 1),), ((-1, 1),)), None, None, 0, 0, 2]
>>> legs_moves(((("ball", origin),), (("ball", ahead),))) == system_of((line_at(origin, ahead),))
True
"""

WEBS = """
>>> from sevenpins.webs import body_moves, freedom, moves_between, needless_links, spare_bonds
>>> far_corner = (one, one, zero)
>>> frame = (3, ((0, 1, ("turn", origin, up)), (1, 2, ("turn", left, up)), (2, 3, ("turn", far_corner, up)), (3, 0, ("turn", ahead, up))))
>>> door = (1, ((0, 1, ("ball", origin)), (0, 1, ("ball", ahead)), (0, 1, ("ball", (two, zero, zero)))))
>>> [freedom(frame), spare_bonds(frame), body_moves(frame, 2) == system_of((slide_along(ahead),)), moves_between(frame, 1, 3) == system_of((slide_along(left),)), needless_links(frame)]
[1, 3, True, True, ()]
>>> [freedom(door), spare_bonds(door), needless_links(door), freedom((2, ()))]
[1, 4, (0, 1, 2), 12]
"""

STANDS = """
>>> from sevenpins.stands import idle_push, is_lost, lost_below, lost_count, lost_near, stand_rows
>>> slides = (("slide", ahead), ("slide", left), ("slide", up))
>>> wrist = (("turn", origin, ahead), ("turn", origin, up), ("turn", origin, ahead)) + slides
>>> steady = (("turn", origin, up), ("turn", origin, ahead), ("turn", origin, left)) + slides
>>> [stand_rows(wrist, 1), stand_rows(steady, 0), lost_count(wrist, 1), lost_count(steady, 0), lost_count(wrist, 0), lost_count(slides + slides[:2] + wrist[:1], 5)]
[((0, 1), (-2, 1), (0, 1), (-2, 1), (0, 1)), ((1, 1), (0, 1), (2, 1), (0, 1), (1, 1)), 2, 0, 'all', 'all']
>>> [is_lost(wrist, 1, (0, 1)), is_lost(wrist, 1, (1, 1)), is_lost(wrist, 1, None), lost_near(wrist, 1, 0, 10), lost_near(wrist, 1, 1, 10), lost_below(wrist, 1, (0, 1)), idle_push(wrist, 1, (1, 1))]
[True, False, True, 0, None, 0, None]
"""

TOUCHES = """
>>> from sevenpins.touches import comes_off, holding_weights, is_left, keeping, placed_jig, rows_of, word_of
>>> here, side, far = o, y, (two, zero, zero)
>>> rows_of(("stop", ahead, up))
(((((0, 1), (0, 1), (1, 1)), ((0, 1), (-1, 1), (0, 1))), False),)
>>> mount = (("cup", here), ("groove", far, (zero, one, one), (zero, less, one)), ("stop", (zero, two, zero), up))
>>> vice = (("stop", here, up), ("stop", here, (zero, zero, less)))
>>> firm = (("cup", here), ("stop", side, up), ("stop", up, ahead), ("stop", ahead, side), ("stop", (half, half, less), (one, less, zero)))
>>> [word_of(mount), word_of(vice), word_of(firm), word_of(firm[:4]), word_of(firm[:1]), len(keeping(vice)), len(keeping(mount)), keeping(firm)]
['loose', 'kept', 'held', 'loose', 'kept', 5, 0, ()]
>>> [comes_off(mount, 0), comes_off(mount, 1), comes_off(vice, 1), is_left(mount, (ahead, here)), is_left(firm, (ahead, here)), holding_weights(mount)]
[False, True, False, True, False, None]
>>> [holding_weights(firm)[3] == holding_weights(firm)[6], word_of(placed_jig(firm, ((1, 1, 0, 0), (one, two, zero))))]
[True, 'held']
"""

HOLDS = """
>>> from sevenpins.holds import fewest_holding, holders_among, kept_touches, needless_touches
>>> some = (firm[4], ("stop", here, up), ("pin",) + firm[4][1:])
>>> [kept_touches(mount), kept_touches(firm), holders_among(firm[:4], some), holders_among(firm, some), fewest_holding(mount)]
[(0,), (0, 1, 2, 3, 4), (0, 2), (0, 1, 2), None]
>>> double = firm + (firm[1],)
>>> [fewest_holding(double), needless_touches(double), needless_touches(firm), fewest_holding(double[1:]), fewest_holding((firm[1],) + firm)]
[(0, 1, 2, 3, 4), (1, 5), (), None, (0, 1, 3, 4, 5)]
"""

LOADS = """
>>> from sevenpins.loads import are_all_borne, bearing_weights, clamp_range, is_borne, is_settled, least_greatest, times_range, weight_range
>>> load, lift, heavy = ((zero, zero, less), ((-1, 2), half, zero)), (up, ((4, 1), zero, zero)), ((zero, zero, (-4, 1)), here)
>>> bearing_weights(mount, load)
((0, 1), (0, 1), (1, 2), (1, 8), (1, 8), (1, 4))
>>> [is_borne(mount, lift), times_range(mount, load, lift), times_range(mount, lift, load), times_range(mount, lift, lift), clamp_range(mount, load, (lift, load)), are_all_borne(mount, (load, lift)), are_all_borne(firm, (load, lift))]
[False, ((0, 1), (1, 8)), ((8, 1), None), None, ((8, 1), None), False, True]
>>> table = (("rest", ((one, one, zero), (one, less, zero), (less, less, zero), (less, one, zero)), up),)
>>> [weight_range(table, heavy, 0), is_settled(table, heavy), least_greatest(table, heavy), weight_range(vice, heavy, 0), weight_range(table, lift, 0), is_settled(mount, load), least_greatest(mount, load)]
[((0, 1), (2, 1)), False, (1, 1), ((4, 1), None), None, True, (1, 2)]
"""

MARKS = """
>>> from sevenpins.marks import errors_fit, fits_move, fitting_move, is_settled_mark, mark_range, mark_shares
>>> near, deep = ((-1, 10), (1, 10)), (two, two, zero)
>>> pins = ((here, up, near), (far, up, near), ((zero, two, zero), up, near), (here, side, near), (far, side, near), (here, ahead, near))
>>> mark_shares(pins, (deep, up))
((-1, 1), (1, 1), (1, 1), (0, 1), (0, 1), (0, 1))
>>> more, wrong = pins + ((deep, up, ((1, 5), (1, 5))),), pins + ((deep, up, ((2, 5), (1, 2))),)
>>> [mark_range(pins, (deep, up)), mark_range(more, (deep, up)), mark_range(more, (here, up)), mark_range(pins[:5], (here, ahead)), is_settled_mark(pins[:5], (here, ahead)), fitting_move(wrong)]
[((-3, 10), (3, 10)), ((1, 5), (1, 5)), ((-1, 10), (0, 1)), None, False, None]
>>> [fits_move(pins, (here, (zero, zero, (1, 9)))), fits_move(pins, (here, (zero, zero, (1, 10)))), errors_fit(more, (zero,) * 7), errors_fit(more, (zero,) * 6 + (one,)), errors_fit(pins, (one,) * 6)]
[False, True, True, False, True]
"""

HEAPS = """
>>> from sevenpins.heaps import heap_balance, heap_bears, heap_word, still_bodies
>>> solo = ((0, 1, firm[0]), (0, 1, firm[1]), (0, 1, firm[2]), (0, 1, firm[3]), (0, 1, firm[4]))
>>> pile = (2, ((0, 1, table[0]), (1, 2, ("cup", up))))
>>> [heap_word((1, solo)), heap_word((2, solo)), still_bodies((2, solo)), heap_word(pile), still_bodies(pile)]
['held', 'kept', (1,), 'loose', ()]
>>> sole = ((zero, zero, less), here)
>>> [heap_bears(pile, (heavy, sole)), heap_bears(pile, (heavy, load)), heap_balance(pile, (heavy, sole))[4:], heap_bears((2, solo), (lift, (here, here)))]
[True, False, ((0, 1), (0, 1), (1, 1)), True]
"""

BLOWS = """
>>> from sevenpins.blows import blown, energy, is_body, kept_blow, middle, momentum, stop_blows, struck
>>> from sevenpins.systems import system_of
>>> back_x, back_y = triple_times(x, (-1, 1)), triple_times(y, (-1, 1))
>>> cross4, knock = ((x, (1, 1)), (back_x, (1, 1)), (y, (1, 1)), (back_y, (1, 1))), line_at(x, z)
>>> [is_body(cross4[:2]), middle(cross4) == o, momentum(cross4, slide_along(z)) == screw_times(line_at(o, z), (4, 1)), energy(cross4, line_at(o, z)), energy(cross4, line_at(o, x))]
[False, True, True, (4, 1), (2, 1)]
>>> [blown(cross4, knock), energy(cross4, blown(cross4, knock)), kept_blow(cross4, system_of((slide_along(x), slide_along(y), slide_along(z))), knock)]
[(((0, 1), (-1, 2), (0, 1)), ((0, 1), (0, 1), (1, 4))), (3, 4), (((0, 1), (0, 1), (0, 1)), ((0, 1), (0, 1), (1, 4)))]
>>> lid = (("stop", o, triple_times(z, (-1, 1))),)
>>> [struck(lid, cross4, knock), stop_blows(lid, cross4, knock), struck(lid, cross4, line_at(x, triple_times(z, (-1, 1))))]
[(((0, 1), (-1, 2), (0, 1)), ((0, 1), (0, 1), (0, 1))), ((1, 1),), (((0, 1), (1, 2), (0, 1)), ((0, 1), (0, 1), (-1, 4)))]
"""

SPRINGS = """
>>> from sevenpins.springs import are_springs, are_steady, are_stiffer, given_way, pushed_back, softer_move, spring_energy
>>> feet, sides = ((o, x, one), (o, y, one), (o, z, one)), ((y, x, one), (z, y, one), (x, z, one))
>>> [are_springs(()), are_steady(feet), are_steady(feet + sides), spring_energy(feet, line_at(x, z)), spring_energy(feet + sides, line_at(o, z)), pushed_back(feet + sides, slide_along(x))]
[False, False, True, (1, 1), (1, 1), (((-2, 1), (0, 1), (0, 1)), ((0, 1), (0, 1), (1, 1)))]
>>> [given_way(feet + sides, line_at(o, x)) == (z, x), given_way(feet, slide_along(x)), are_stiffer(feet + sides, feet), are_stiffer(feet, sides), softer_move(feet + sides, sides), spring_energy(feet, softer_move(feet, sides))[0] >= 0]
[True, None, True, False, None, True]
"""

CONSOLES = """
>>> from sevenpins.consoles import Console
>>> from sevenpins.workshops import Workshop
>>> shop = Workshop()
>>> console = Console(shop)
>>> [console.say("put bed: stop 0/1 0/1 0/1 0/1 0/1 1/1; cup 1/2 0/1 0/1"), console.say("names"), console.say("jig bed"), console.say("word bed")]
['done', 'bed', 'stop 0/1 0/1 0/1 0/1 0/1 1/1; cup 1/2 0/1 0/1', 'loose']
>>> [console.say("bears bed: 0/1 0/1 -1/1 0/1 0/1 0/1"), console.say("bears bed: 0/1 0/1 1/1 0/1 0/1 0/1"), console.say("lets bed: 1/1 0/1 0/1 0/1 0/1 0/1"), console.say("lets bed: 0/1 0/1 0/1 1/1 0/1 0/1")]
['yes', 'no', 'yes', 'no']
>>> shop.wish(("on", "bed", 1))
>>> shop.wish(("held", "bed"))
raises Broken(index=1)
>>> [len(shop), shop.names, console.say("undo"), console.say("drop bed"), shop.names]
[2, ('bed',), 'done', 'done', ()]
"""


def parted(text):
    """Pairs of a row of code and what is told behind it, None for nothing."""
    rows = [row for row in text.split("\n") if row]
    for at, row in enumerate(rows):
        if row.startswith(">>> "):
            told = rows[at + 1] if at + 1 < len(rows) and not rows[at + 1].startswith(">>> ") else None
            yield row[4:], told


class Examples(unittest.TestCase):
    def run_examples(self, *texts):
        names = {}
        for text in texts:
            for code, told in parted(text):
                if told is None:
                    exec(code, names)
                elif told.startswith("raises "):
                    self.assertEqual(self.raised(code, names), told[7:], code)
                else:
                    self.assertEqual(repr(eval(code, names)), told, code)

    def raised(self, code, names):
        """The error that the code raises, as the document tells it."""
        with self.assertRaises(ScrewError) as held:
            eval(code, names)
        kept = ", ".join(f"{name}={value!r}" for name, value in vars(held.exception).items())
        return f"{type(held.exception).__name__}({kept})"

    def test_triples(self):
        self.run_examples(TRIPLES)

    def test_screws(self):
        self.run_examples(TRIPLES, SCREWS)

    def test_turnings(self):
        self.run_examples(TRIPLES, TURNINGS)

    def test_systems(self):
        self.run_examples(TRIPLES, SYSTEMS)

    def test_lines(self):
        self.run_examples(TRIPLES, SYSTEMS, LINES)

    def test_pitches(self):
        self.run_examples(TRIPLES, SYSTEMS, PITCHES)

    def test_joints(self):
        self.run_examples(TRIPLES, SYSTEMS, JOINTS)

    def test_webs(self):
        self.run_examples(TRIPLES, SYSTEMS, WEBS)

    def test_stands(self):
        self.run_examples(TRIPLES, SYSTEMS, STANDS)

    def test_touches(self):
        self.run_examples(TRIPLES, SYSTEMS, TOUCHES)

    def test_holds(self):
        self.run_examples(TRIPLES, SYSTEMS, TOUCHES, HOLDS)

    def test_loads(self):
        self.run_examples(TRIPLES, SYSTEMS, TOUCHES, LOADS)

    def test_marks(self):
        self.run_examples(TRIPLES, SYSTEMS, TOUCHES, MARKS)

    def test_heaps(self):
        self.run_examples(TRIPLES, SYSTEMS, TOUCHES, LOADS, HEAPS)

    def test_blows(self):
        self.run_examples(TRIPLES, SCREWS, BLOWS)

    def test_springs(self):
        self.run_examples(TRIPLES, SCREWS, SPRINGS)

    def test_consoles(self):
        self.run_examples(CONSOLES)

    def test_all(self):
        self.run_examples(
            TRIPLES, TURNINGS, SCREWS, SYSTEMS, LINES, PITCHES, JOINTS, WEBS, STANDS, TOUCHES, HOLDS, LOADS, MARKS,
            HEAPS, BLOWS, SPRINGS, CONSOLES,
        )


if __name__ == "__main__":
    unittest.main()
