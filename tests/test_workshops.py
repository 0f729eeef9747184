"""Workshops: jigs under names, and wishes that always hold ([47])."""
import unittest

from sevenpins.errors import (
    Broken, InUse, InvalidIndex, InvalidJig, InvalidName, InvalidWish, NothingToUndo, ScrewError, UnknownName,
)
from sevenpins.workshops import Workshop
from tests.helpers import (
    ANYTHING, NOUGHT, WRONG_SCREWS, WRONG_WHOLES, X, Y, Z, check_refusals, given, indexed, refused, triple,
)
from tests.jigs import WRONG_JIGS, JigDraws, Left, own_is_left, own_jig_rows, own_rows, worth

LETTERS = "abcdefghijklmnopqrstuvwxyz"
DOWN = triple((0, 0, -1))
LID, VICE = (("stop", NOUGHT, Z),), (("stop", NOUGHT, Z), ("stop", NOUGHT, DOWN))
FIRM = (("cup", X), ("cup", Y), ("cup", Z))
PRESS = (DOWN, NOUGHT)


# A plain model of a workshop: a dictionary, a tuple of wishes, and a list of earlier states.

class Truths:
    """Whether wishes hold of jigs, by the tests' own moves; what was found is kept."""

    def __init__(self):
        self.found = {}

    def of(self, wish, jig):
        key = (wish[0], wish[2:], jig)
        if key not in self.found:
            self.found[key] = self.look(wish, jig)
        return self.found[key]

    def look(self, wish, jig):
        rows = own_jig_rows(jig)
        if wish[0] == "left":
            return own_is_left(rows, wish[2])
        if wish[0] == "on" and wish[2] >= len(jig):
            return False
        left = self.found.setdefault(jig, Left(rows))
        if wish[0] == "held":
            return left.word(rows) == "held"
        if wish[0] == "borne":
            return left.does_bear(wish[2])
        return not any(worth(push, ray) > 0 for push, _ in own_rows(jig[wish[2]]) for ray in left.rays)


class Model:
    def __init__(self, truths):
        self.truths = truths
        self.jigs, self.wishes, self.earlier = {}, (), []

    def state(self):
        return dict(self.jigs), self.wishes, list(self.earlier)

    def lead_back(self, state):
        self.jigs, self.wishes, self.earlier = dict(state[0]), state[1], list(state[2])

    def change(self, jigs, wishes):
        self.earlier.append((self.jigs, self.wishes))
        self.jigs, self.wishes = jigs, wishes

    def put(self, name, jig):
        for index, wish in enumerate(self.wishes):
            if wish[1] == name and not self.truths.of(wish, jig):
                return Broken, index
        self.change({**self.jigs, name: jig}, self.wishes)

    def drop(self, name):
        if name not in self.jigs:
            return UnknownName, name
        for index, wish in enumerate(self.wishes):
            if wish[1] == name:
                return InUse, index
        self.change({other: jig for other, jig in self.jigs.items() if other != name}, self.wishes)

    def wish(self, wish):
        if wish[1] not in self.jigs:
            return UnknownName, wish[1]
        if not self.truths.of(wish, self.jigs[wish[1]]):
            return Broken, len(self.wishes)
        self.change(self.jigs, self.wishes + (wish,))

    def lift(self, index):
        if not 0 <= index < len(self.wishes):
            return InvalidIndex, index
        self.change(self.jigs, self.wishes[:index] + self.wishes[index + 1:])

    def undo(self):
        if not self.earlier:
            return NothingToUndo, None
        self.jigs, self.wishes = self.earlier.pop()


class Stop(Exception):
    pass


class Lives(JigDraws):
    """Draws deeds for a workshop and its model."""

    def __init__(self, seed, truths):
        super().__init__(seed)
        self.truths = truths
        self.names = ["a", "bed", "jig", "abcdefghijkl"]
        self.jigs = [LID, VICE, FIRM, FIRM + LID, VICE + FIRM[:1]] + [self.small_jig(6) for _ in range(6)]
        self.pushes = [PRESS, (Z, NOUGHT), (NOUGHT, NOUGHT), (X, Y), (NOUGHT, Z)]
        self.pushes += [self.push(self.pick(self.jigs)) for _ in range(5)]

    def wish(self):
        name = self.pick(self.names)
        word = self.pick(("held", "borne", "left", "on", "on"))
        if word == "held":
            return (word, name)
        return (word, name, self.whole(0, 3) if word == "on" else self.pick(self.pushes))

    def deed(self):
        kind = self.whole(0, 13)
        if kind < 4:
            return "put", self.pick(self.names), self.pick(self.jigs)
        if kind < 9:
            return "wish", self.wish()
        if kind < 11:
            return "lift", self.whole(0, 3)
        return ("drop", self.pick(self.names)) if kind == 11 else ("undo",)


class Case(unittest.TestCase):
    def setUp(self):
        self.truths = Truths()

    def same(self, shop, model):
        self.assertEqual(shop.names, tuple(sorted(model.jigs)))
        self.assertEqual(shop.wishes, model.wishes)
        self.assertIs(type(shop.names), tuple)
        self.assertIs(type(shop.wishes), tuple)
        self.assertEqual(len(shop), len(model.earlier))
        self.assertTrue(shop)
        for name in ("a", "bed", "jig", "abcdefghijkl", "other"):
            self.assertIs(name in shop, name in model.jigs)
            if name in model.jigs:
                self.assertEqual(shop.named(name), model.jigs[name])

    def do(self, shop, model, deed):
        """Does the deed to both; whether it was refused, by which error."""
        expected = getattr(model, deed[0])(*deed[1:])
        if expected is None:
            self.assertIsNone(getattr(shop, deed[0])(*deed[1:]))
            return None
        error, kept = expected
        with self.assertRaises(ScrewError) as held:
            getattr(shop, deed[0])(*deed[1:])
        self.assertIs(type(held.exception), error)
        if error is not NothingToUndo:
            self.assertEqual(held.exception.index if error in (Broken, InUse) else held.exception.given, kept)
        return error


class Lived(Case):
    def test_lives(self):
        seen = {}
        for seed in range(9):
            draws = Lives(400 + seed, self.truths)
            shop, model = Workshop(), Model(self.truths)
            for _ in range(120):
                deed = draws.deed()
                word = deed[1][0] if deed[0] == "wish" else deed[0]
                error = self.do(shop, model, deed)
                self.same(shop, model)
                seen[word, error] = seen.get((word, error), 0) + 1
            while len(shop):
                self.do(shop, model, ("undo",))
                self.same(shop, model)
            self.assertEqual((shop.names, shop.wishes), ((), ()))
            self.assertIs(self.do(shop, model, ("undo",)), NothingToUndo)
        for told in [
            ("put", None), ("put", Broken), ("drop", None), ("drop", UnknownName), ("drop", InUse), ("held", None),
            ("held", Broken), ("held", UnknownName), ("borne", None), ("borne", Broken), ("borne", UnknownName),
            ("left", None), ("left", Broken), ("left", UnknownName), ("on", None), ("on", Broken), ("on", UnknownName),
            ("lift", None), ("lift", InvalidIndex), ("undo", None), ("undo", NothingToUndo),
        ]:
            self.assertGreater(seen.get(told, 0), 1, told)

    def test_trials(self):
        ended = {True: 0, False: 0}
        for seed in range(10):
            draws = Lives(430 + seed, self.truths)
            shop, model = Workshop(), Model(self.truths)
            for _ in range(25):
                self.do(shop, model, draws.deed())
                self.try_out(shop, model, draws, 3, ended)
                self.same(shop, model)
        self.assertGreater(min(ended.values()), 50)

    def try_out(self, shop, model, draws, depth, ended):
        """A trial, with trials within it, that ends well or with an exception."""
        before, well = model.state(), draws.random.randrange(2) == 0
        ended[well] += 1
        error = draws.pick((Stop, KeyboardInterrupt, ValueError))
        try:
            with shop.trial() as same:
                self.assertIs(same, shop)
                for _ in range(draws.whole(0, 4)):
                    self.do(shop, model, draws.deed())
                    if depth and draws.random.randrange(4) == 0:
                        self.try_out(shop, model, draws, depth - 1, ended)
                self.same(shop, model)
                if not well:
                    raise error
        except error:
            model.lead_back(before)
        self.same(shop, model)


class Deeds(Case):
    def made(self):
        shop = Workshop()
        shop.put("bed", VICE)
        shop.put(name="lid", jig=LID)
        return shop

    def test_a_new_one(self):
        shop, other = Workshop(), Workshop()
        self.assertEqual((len(shop), shop.names, shop.wishes), (0, (), ()))
        self.assertTrue(shop)
        self.assertIs(bool(shop), True)
        self.assertTrue(shop == shop)
        self.assertFalse(shop != shop)
        self.assertFalse(shop == other)
        self.assertTrue(shop != other)
        for value in ANYTHING:
            self.assertFalse(shop == value)
            self.assertTrue(shop != value)
            self.assertIs(value in shop, False)
        shop.put("a", LID)
        self.assertEqual((len(other), other.names), (0, ()))

    def test_anything_in(self):
        shop = self.made()
        for value in ANYTHING + ["Bed", "be", "bedd", ("bed",), ["bed"], b"bed", {"bed": 1}, shop]:
            self.assertIs(value in shop, False)
        self.assertIs("bed" in shop, True)

    def test_put_in_place(self):
        shop = self.made()
        shop.put("bed", FIRM)
        self.assertEqual((shop.named("bed"), shop.names, len(shop)), (FIRM, ("bed", "lid"), 3))
        shop.put("bed", FIRM)
        self.assertEqual(len(shop), 4)
        shop.undo()
        shop.undo()
        self.assertEqual(shop.named(name="bed"), VICE)

    def test_names(self):
        for name in ("a", "z", "abcdefghijkl", "zzzzzzzzzzzz", "held", "none", LETTERS[:12], LETTERS[14:]):
            shop = Workshop()
            shop.put(name, LID)
            self.assertEqual(shop.names, (name,))
            self.assertIn(name, shop)
        shop = Workshop()
        for name in ("b", "ab", "a", "zz", "aa", "m"):
            shop.put(name, LID)
        self.assertEqual(shop.names, ("a", "aa", "ab", "b", "m", "zz"))

    def test_wishes_of_each_word(self):
        shop = self.made()
        shop.put("firm", FIRM)
        wishes = (
            ("held", "firm"), ("borne", "bed", PRESS), ("borne", "bed", (Z, NOUGHT)), ("left", "lid", (NOUGHT, Z)),
            ("on", "bed", 0), ("on", "bed", 1), ("on", "firm", 2), ("borne", "firm", (X, Y)), ("held", "firm"),
            ("left", "bed", (NOUGHT, X)), ("left", "firm", (NOUGHT, NOUGHT)),
        )
        for wish in wishes:
            self.assertIsNone(shop.wish(wish=wish))
        self.assertEqual(shop.wishes, wishes)
        for wish in (
            ("held", "bed"), ("held", "lid"), ("borne", "lid", (Z, NOUGHT)), ("borne", "bed", (X, NOUGHT)),
            ("left", "lid", (NOUGHT, DOWN)), ("left", "firm", (NOUGHT, X)), ("on", "lid", 0), ("on", "bed", 2),
            ("on", "firm", 3), ("on", "bed", 10 ** 30),
        ):
            refused(self, Broken, lambda: shop.wish(wish), {"index": 11})
            self.assertEqual(shop.wishes, wishes)
        for name in ("bed", "lid", "firm"):
            first = [index for index, wish in enumerate(wishes) if wish[1] == name][0]
            refused(self, InUse, lambda: shop.drop(name), {"index": first})

    def test_broken_by_the_first_wish(self):
        shop = self.made()
        shop.wish(("left", "lid", (NOUGHT, Z)))
        shop.wish(("on", "bed", 1))
        shop.wish(("borne", "bed", PRESS))
        shop.wish(("on", "bed", 0))
        before = (shop.names, shop.wishes, len(shop))
        refused(self, Broken, lambda: shop.put("bed", LID), {"index": 1})
        refused(self, Broken, lambda: shop.put("bed", VICE[1:] + VICE[1:]), {"index": 1})
        refused(self, Broken, lambda: shop.put("lid", FIRM), {"index": 0})
        self.assertEqual((shop.names, shop.wishes, len(shop)), before)
        self.assertEqual(shop.named("bed"), VICE)
        shop.lift(1)
        refused(self, Broken, lambda: shop.put("bed", VICE[1:] + VICE[1:]), {"index": 1})
        shop.put("bed", FIRM)
        shop.put("bed", VICE[::-1])
        self.assertEqual(shop.wishes, (before[1][0],) + before[1][2:])

    def test_lift(self):
        shop = self.made()
        wishes = (("on", "bed", 0), ("on", "bed", 1), ("left", "lid", (NOUGHT, Z)))
        for wish in wishes:
            shop.wish(wish)
        self.assertIsNone(shop.lift(index=1))
        self.assertEqual(shop.wishes, (wishes[0], wishes[2]))
        refused(self, InUse, lambda: shop.drop("lid"), {"index": 1})
        shop.lift(1)
        shop.drop("lid")
        self.assertEqual((shop.names, shop.wishes), (("bed",), wishes[:1]))
        for _ in range(3):
            shop.undo()
        self.assertEqual((shop.names, shop.wishes), (("bed", "lid"), wishes))

    def test_undo_after_each_kind(self):
        shop = self.made()
        for deed in (
            lambda: shop.put("new", FIRM), lambda: shop.put("bed", FIRM), lambda: shop.drop("lid"),
            lambda: shop.wish(("on", "bed", 0)),
        ):
            before = (shop.names, shop.wishes, len(shop), shop.named("bed"))
            self.assertIsNone(deed())
            self.assertEqual(len(shop), before[2] + 1)
            self.assertIsNone(shop.undo())
            self.assertEqual((shop.names, shop.wishes, len(shop), shop.named("bed")), before)
        shop.wish(("on", "bed", 0))
        shop.lift(0)
        shop.undo()
        self.assertEqual(shop.wishes, (("on", "bed", 0),))

    def test_jigs_of_what_is_wished_are_not_looked_at_elsewhere(self):
        shop = self.made()
        shop.wish(("on", "bed", 1))
        shop.put("lid", VICE)
        shop.put("other", LID)
        self.assertEqual(len(shop), 5)


class Trials(Case):
    def test_a_call_alone_changes_nothing(self):
        shop = Workshop()
        shop.put("a", LID)
        trial = shop.trial()
        shop.put("b", LID)
        self.assertEqual(len(shop), 2)
        with self.assertRaises(Stop):
            with trial as same:
                self.assertIs(same, shop)
                shop.drop("a")
                raise Stop
        # As it was when the block began, not when the call was made.
        self.assertEqual((shop.names, len(shop)), (("a", "b"), 2))

    def test_what_is_passed_on(self):
        shop, raised = Workshop(), Stop("kept")
        with self.assertRaises(Stop) as held:
            with shop.trial():
                raise raised
        self.assertIs(held.exception, raised)
        with self.assertRaises(Broken) as held:
            with shop.trial():
                shop.put("a", LID)
                shop.wish(("held", "a"))
        self.assertEqual((held.exception.index, shop.names), (0, ()))

    def test_ends_that_are_no_exceptions(self):
        shop = Workshop()

        def leave():
            with shop.trial():
                shop.put("a", LID)
                return "left"

        self.assertEqual(leave(), "left")
        for _ in range(2):
            with shop.trial():
                shop.put("b", LID)
                break
        self.assertEqual((shop.names, len(shop)), (("a", "b"), 2))

    def test_undo_within(self):
        shop = Workshop()
        shop.put("a", LID)
        shop.put("b", VICE)
        with self.assertRaises(Stop):
            with shop.trial():
                shop.undo()
                shop.undo()
                self.assertEqual((shop.names, len(shop)), ((), 0))
                refused(self, NothingToUndo, shop.undo, {})
                shop.put("c", LID)
                raise Stop
        self.assertEqual((shop.names, len(shop)), (("a", "b"), 2))
        shop.undo()
        self.assertEqual(shop.names, ("a",))
        with shop.trial():
            shop.undo()
        self.assertEqual((shop.names, len(shop)), ((), 0))

    def test_trials_within_trials(self):
        shop = Workshop()
        with shop.trial():
            shop.put("a", LID)
            with self.assertRaises(Stop):
                with shop.trial():
                    shop.put("b", LID)
                    with shop.trial():
                        shop.put("c", LID)
                    self.assertEqual(shop.names, ("a", "b", "c"))
                    raise Stop
            self.assertEqual(shop.names, ("a",))
        with self.assertRaises(Stop):
            with shop.trial():
                with shop.trial():
                    shop.put("d", LID)
                raise Stop
        self.assertEqual((shop.names, len(shop)), (("a",), 1))

    def test_one_trial_for_several_blocks(self):
        shop = Workshop()
        trial = shop.trial()
        for name in ("a", "b"):
            with trial:
                shop.put(name, LID)
        with self.assertRaises(Stop):
            with trial:
                shop.put("c", LID)
                with self.assertRaises(Stop):
                    with trial:
                        shop.put("d", LID)
                        raise Stop
                self.assertEqual(shop.names, ("a", "b", "c"))
                raise Stop
        self.assertEqual((shop.names, len(shop)), (("a", "b"), 2))

    def test_tried(self):
        shop = Workshop()

        def well(told):
            self.assertIs(told, shop)
            told.put("a", LID)
            return ["any", told]

        def badly(told):
            told.undo()
            told.put("b", LID)
            raise Stop("kept")

        self.assertEqual(shop.tried(well), ["any", shop])
        self.assertEqual((shop.names, len(shop)), (("a",), 1))
        with self.assertRaises(Stop):
            shop.tried(action=badly)
        self.assertEqual((shop.names, len(shop)), (("a",), 1))
        self.assertIsNone(shop.tried(lambda told: None))
        self.assertEqual(shop.tried(len), 1)
        refused(self, UnknownName, lambda: shop.tried(lambda told: told.drop("c")), {"given": "c"})

    def test_two_workshops(self):
        shop, other = Workshop(), Workshop()
        with self.assertRaises(Stop):
            with shop.trial(), other.trial():
                shop.put("a", LID)
                other.put("b", LID)
                raise Stop
        with self.assertRaises(Stop):
            with shop.trial():
                other.put("b", LID)
                raise Stop
        self.assertEqual((shop.names, other.names), ((), ("b",)))


WRONG_NAMES = ANYTHING + [
    "", "A", "Bed", "bed ", " bed", "b d", "bed1", "b-d", "b_d", "abcdefghijklm", "a" * 13, "a" * 4000, ".", "bed\n",
    "\u00e4", "\u0430", b"bed", ("bed",), ["bed"], {"bed": 1}, {"bed"}, ("b", "e", "d"),
]
WRONG_NAMES = [value for value in WRONG_NAMES if value != "abc"]


def wrong_wishes():
    good = [("held", "bed"), ("borne", "bed", PRESS), ("left", "bed", PRESS), ("on", "bed", 0)]
    found = list(ANYTHING) + ["held", "held bed", ["held", "bed"], ("held",), ("bed", "held"), ("Held", "bed")]
    found += [("kept", "bed"), ("held", "bed", ()), ("held", "bed", None), ("holds", "bed"), (b"held", "bed")]
    found += [("on", "bed"), ("on", "bed", 0, 1), ("on", "bed", -1), ("on", "bed", True), ("on", "bed", (0, 1))]
    found += [("borne", "bed"), ("borne", PRESS, "bed"), ("borne", "bed", (PRESS,)), ("borne", "bed", 0), ("", "bed")]
    found += [("left", "bed", PRESS, PRESS), ("left", "bed"), ("left", "bed", 0), ("on", "bed", PRESS), ((), "bed")]
    found += [(word, "bed", PRESS) for word in ("bears", "lets", "kept", "loose", "not borne", "Left", "borne ")]
    found += [("off", "bed", 0), ("not held", "bed"), (None, "bed"), ("held ", "bed"), ({}, "bed"), (["held"], "bed")]
    found += [wish[:1] + (name,) + wish[2:] for wish in good for name in WRONG_NAMES]
    found += [(word, "bed", value) for word in ("borne", "left") for value in WRONG_SCREWS]
    found += [("on", "bed", value) for value in WRONG_WHOLES]
    return found + [(wish,) for wish in good] + [wish + wish for wish in good]


class Refusals(Case):
    def setUp(self):
        super().setUp()
        self.shop = Workshop()
        self.shop.put("bed", VICE)
        self.shop.put("abc", LID)
        self.shop.wish(("on", "bed", 0))
        self.before = (self.shop.names, self.shop.wishes, len(self.shop), VICE)

    def tearDown(self):
        told = (self.shop.names, self.shop.wishes, len(self.shop), self.shop.named("bed"))
        self.assertEqual(told, self.before)

    def test_put(self):
        check_refusals(self, self.shop.put, {"name": "bed", "jig": LID}, {
            "name": given(WRONG_NAMES, InvalidName), "jig": indexed(WRONG_JIGS, InvalidJig),
        })
        refused(self, Broken, lambda: self.shop.put("bed", LID), {"index": 0})
        refused(self, InvalidJig, lambda: self.shop.put("bed", LID * 13), {"index": 12})

    def test_names(self):
        unknown = given(WRONG_NAMES + ["be", "bedd", "zzz"], UnknownName)
        for method in (self.shop.drop, self.shop.named):
            check_refusals(self, method, {"name": "bed"}, {"name": unknown})
        refused(self, InUse, lambda: self.shop.drop("bed"), {"index": 0})

    def test_wish(self):
        check_refusals(self, self.shop.wish, {"wish": ("held", "bed")}, {"wish": given(wrong_wishes(), InvalidWish)})
        for wish in (("held", "other"), ("borne", "other", PRESS), ("left", "other", PRESS), ("on", "other", 7)):
            name = wish[1]
            refused(self, UnknownName, lambda: self.shop.wish(wish), {"given": name})
        refused(self, Broken, lambda: self.shop.wish(("held", "bed")), {"index": 1})

    def test_lift(self):
        check_refusals(self, self.shop.lift, {"index": 0}, {
            "index": given(WRONG_WHOLES + [-1, 1, 2, 10 ** 30, True, False], InvalidIndex),
        })

    def test_nothing_to_undo(self):
        shop = Workshop()
        for _ in range(2):
            refused(self, NothingToUndo, shop.undo, {})
        shop.put("a", LID)
        shop.undo()
        refused(self, NothingToUndo, shop.undo, {})
        refused(self, UnknownName, lambda: shop.named("a"), {"given": "a"})
        refused(self, InvalidIndex, lambda: shop.lift(0), {"given": 0})


if __name__ == "__main__":
    unittest.main()
