"""The names and arguments of the interface, and where they are defined."""
import importlib
import inspect
import unittest

INTERFACE = {
    "triples": [
        "is_fraction(value)", "is_triple(value)", "is_direction(value)", "fraction_of(number, other)",
        "triple_sum(triple, other)", "triple_times(triple, fraction)", "dot(triple, other)", "cross(triple, other)",
        "plain_direction(direction)",
    ],
    "turnings": [
        "is_turning(value)", "is_placing(value)", "turning_of(numbers)", "turned(turning, triple)",
        "joined_turnings(turning, other)", "back_turning(turning)", "placed(placing, point)",
        "joined_placings(placing, other)", "back_placing(placing)", "placed_screw(placing, screw)",
    ],
    "screws": [
        "is_screw(value)", "is_line(value)", "line_at(point, direction)", "slide_along(direction)",
        "screw_about(point, direction, pitch)", "screw_sum(screw, other)", "screw_times(screw, fraction)",
        "power(screw, other)", "moment_at(screw, point)", "pitch_of(screw)", "axis_point(screw)",
        "nearest_points(screw, other)", "apart_square(screw, other)",
    ],
    "systems": [
        "is_system(value)", "system_of(screws)", "order_of(system)", "is_in(system, screw)", "shares_of(system, screw)",
        "joined_systems(system, other)", "meeting(system, other)", "back_of(system)", "slides_in(system)",
        "resting_at(system, point)", "placed_system(placing, system)", "screws_in(system, point, direction)",
    ],
    "lines": ["line_through(point, other)", "do_cross(line, other)", "lines_across(lines)"],
    "pitches": [
        "signs_at(system, fraction)", "is_open(system)", "screw_below(system, fraction)",
        "screw_above(system, fraction)", "has_pitch(system, fraction)", "pitch_pair(system, fraction)",
        "pitch_count(system, fraction)",
        "principal_counts(system, fraction)", "least_near(system, many)", "greatest_near(system, many)",
        "crossing_line(system)",
    ],
    "joints": [
        "is_joint(value)", "moves_of(joint)", "bears_of(joint)", "arm_moves(arm)", "arm_bears(arm)", "legs_moves(legs)",
        "legs_bears(legs)", "rates_for(arm, move)", "barring_push(arm, move)", "idle_order(arm)",
    ],
    "webs": [
        "is_web(value)", "freedom(web)", "spare_bonds(web)", "body_moves(web, number)",
        "moves_between(web, number, other)", "needless_links(web)",
    ],
    "stands": [
        "is_crane(value)", "screws_at(crane, index, stand)", "stand_rows(crane, index)", "is_lost(crane, index, stand)",
        "idle_push(crane, index, stand)", "lost_count(crane, index)", "lost_below(crane, index, fraction)",
        "lost_near(crane, index, place, many)",
    ],
    "touches": [
        "is_touch(value)", "is_jig(value)", "rows_of(touch)", "jig_rows(jig)", "is_left(jig, move)", "word_of(jig)",
        "holding_weights(jig)", "free_move(jig)", "keeping(jig)", "comes_off(jig, index)", "off_move(jig, index)",
        "on_weights(jig, index)", "opening_move(jig)", "placed_jig(jig, placing)",
    ],
    "holds": [
        "kept_touches(jig)", "holders_among(jig, touches)", "fewest_holding(jig)", "needless_touches(jig)",
    ],
    "loads": [
        "is_borne(jig, push)", "bearing_weights(jig, push)", "breaking_move(jig, push)", "are_all_borne(jig, lot)",
        "times_range(jig, push, other)", "clamp_range(jig, clamp, lot)", "weight_range(jig, push, index)",
        "is_settled(jig, push)", "least_greatest(jig, push)",
    ],
    "marks": [
        "is_gauge(value)", "fits_move(gauge, move)", "fitting_move(gauge)", "misfit_weights(gauge)",
        "errors_fit(gauge, value)", "is_settled_mark(gauge, mark)", "mark_shares(gauge, mark)",
        "blind_move(gauge, mark)", "mark_range(gauge, mark)", "range_weights(gauge, mark)",
    ],
    "heaps": [
        "is_heap(value)", "heap_word(heap)", "heap_move(heap)", "heap_weights(heap)", "still_bodies(heap)",
        "heap_bears(heap, pushes)", "heap_balance(heap, pushes)", "heap_breaking(heap, pushes)",
    ],
    "blows": [
        "is_body(value)", "middle(body)", "momentum(body, move)", "energy(body, move)", "blown(body, blow)",
        "kept_blow(body, system, blow)", "struck(jig, body, blow)", "stop_blows(jig, body, blow)",
    ],
    "springs": [
        "are_springs(value)", "pushed_back(springs, move)", "spring_energy(springs, move)", "are_steady(springs)",
        "given_way(springs, load)", "are_stiffer(springs, other)", "softer_move(springs, other)",
    ],
    "checker": ["accepts(claim, paper)"],
    "certificates": [
        "certify_screw(system, screw)", "certify_above(system, pitch)", "certify_pitch(system, pitch)",
        "certify_jig(jig)", "certify_touch(jig, index)", "certify_push(jig, push)", "certify_mark(gauge, mark)",
        "certify_range(gauge, mark, fraction, other)", "certify_move(arm, move)", "certify_stand(crane, index, stand)",
        "certify_blow(jig, body, blow)", "certify_springs(springs, other)",
    ],
}
CLASSES = {
    ("workshops", "Workshop()"): [
        "put(name, jig)", "drop(name)", "wish(wish)", "lift(index)", "named(name)", "undo()", "trial()",
        "tried(action)",
    ],
    ("consoles", "Console(shop)"): ["say(line)"],
}


class Interface(unittest.TestCase):
    def check_parameters(self, function, told, first=()):
        parameters = inspect.signature(function).parameters
        names = [name for name in told.split("(")[1].rstrip(")").split(", ") if name]
        self.assertEqual(list(parameters), list(first) + names)
        for parameter in parameters.values():
            self.assertIs(parameter.kind, inspect.Parameter.POSITIONAL_OR_KEYWORD)
            self.assertIs(parameter.default, inspect.Parameter.empty)

    def test_classes(self):
        for (name, signature), methods in CLASSES.items():
            module = importlib.import_module("sevenpins." + name)
            made = getattr(module, signature.split("(")[0])
            self.assertTrue(inspect.isclass(made))
            self.assertEqual(made.__module__, "sevenpins." + name)
            self.check_parameters(made.__init__, signature, ("self",))
            for told in methods:
                with self.subTest(module=name, method=told):
                    method = vars(made)[told.split("(")[0]]
                    self.assertTrue(inspect.isfunction(method))
                    self.check_parameters(method, told, ("self",))

    def test_signs_and_properties_of_workshops(self):
        made = importlib.import_module("sevenpins.workshops").Workshop
        for name in ("__len__", "__contains__"):
            self.assertTrue(inspect.isfunction(vars(made)[name]))
        for name in ("names", "wishes"):
            self.assertIsInstance(vars(made)[name], property)

    def test_functions(self):
        for name, signatures in INTERFACE.items():
            module = importlib.import_module("sevenpins." + name)
            for told in signatures:
                with self.subTest(module=name, function=told):
                    function = getattr(module, told.split("(")[0])
                    self.assertTrue(inspect.isfunction(function))
                    self.assertEqual(function.__module__, "sevenpins." + name)
                    self.check_parameters(function, told)


if __name__ == "__main__":
    unittest.main()
