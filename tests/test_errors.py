"""Each class of errors, made by position and by name ([4])."""
import unittest

from sevenpins import errors

GIVEN = (
    "InvalidFraction InvalidNumber InvalidIndex InvalidTriple InvalidDirection InvalidTurning InvalidPlacing "
    "InvalidScrew InvalidSystem InvalidTouch InvalidMark InvalidJoint InvalidStand InvalidName InvalidWish "
    "InvalidPhrase UnknownName NotAWorkshop TooMany"
).split()
INDEX = (
    "InvalidScrews InvalidJig InvalidLot InvalidGauge InvalidArm InvalidLegs InvalidWeb InvalidHeap InvalidCrane "
    "InvalidBody InvalidSprings InUse Broken"
).split()
BARE = "NoAxis Along NoMoveFits NothingToUndo".split()
KEPT = [
    None, True, False, 0, 7, -1, 10 ** 60, "", "a word", b"\x00", (), (1, 2), ((0, 1), (1, 1), ()), [], [1, [2]],
    {}, {"a": (1,)}, set(), {1}, object(), len, errors, ValueError, ValueError("inner"),
]


def named(name):
    return getattr(errors, name)


class Errors(unittest.TestCase):
    def test_base(self):
        self.assertEqual(errors.ScrewError.__bases__, (ValueError,))
        error = errors.ScrewError()
        self.assertIsInstance(error, ValueError)
        self.assertFalse(hasattr(error, "given"))
        self.assertFalse(hasattr(error, "index"))

    def test_each_stands_under_the_base_alone(self):
        for name in GIVEN + INDEX + BARE:
            with self.subTest(name):
                made = named(name)
                self.assertIsInstance(made, type)
                self.assertEqual(made.__name__, name)
                self.assertEqual(
                    made.__mro__, (made, errors.ScrewError, ValueError, Exception, BaseException, object)
                )
                for other in GIVEN + INDEX + BARE:
                    self.assertEqual(issubclass(made, named(other)), other == name)

    def test_defined_here(self):
        for name in ["ScrewError"] + GIVEN + INDEX + BARE:
            self.assertEqual(named(name).__module__, "sevenpins.errors")

    def test_keeps_given(self):
        self.keeps(GIVEN, "given", "index")

    def test_keeps_index(self):
        self.keeps(INDEX, "index", "given")

    def keeps(self, names, word, unlike):
        for name in names:
            for value in KEPT:
                with self.subTest(name, value=value):
                    for error in (named(name)(value), named(name)(**{word: value})):
                        self.assertIs(type(error), named(name))
                        self.assertIs(getattr(error, word), value)
                        self.assertFalse(hasattr(error, unlike))

    def test_what_is_kept_is_its_own(self):
        for name in GIVEN:
            first, second = named(name)(1), named(name)(given=2)
            self.assertEqual((first.given, second.given), (1, 2))
        for name in INDEX:
            first, second = named(name)(1), named(name)(index=None)
            self.assertEqual((first.index, second.index), (1, None))

    def test_without_attributes(self):
        for name in BARE:
            error = named(name)()
            self.assertIs(type(error), named(name))
            self.assertFalse(hasattr(error, "given"))
            self.assertFalse(hasattr(error, "index"))

    def test_raised_and_caught(self):
        for name in GIVEN + INDEX + BARE:
            arguments = () if name in BARE else ((1, "x"),)
            for caught in (named(name), errors.ScrewError, ValueError):
                with self.subTest(name, caught=caught):
                    with self.assertRaises(caught) as held:
                        raise named(name)(*arguments)
                    self.assertIs(type(held.exception), named(name))

    def test_equal_to_itself_alone_and_true(self):
        for name in GIVEN + INDEX + BARE:
            arguments = () if name in BARE else (0,)
            first, second = named(name)(*arguments), named(name)(*arguments)
            self.assertTrue(first == first)
            self.assertFalse(first != first)
            self.assertFalse(first == second)
            self.assertTrue(first != second)
            self.assertTrue(first)


if __name__ == "__main__":
    unittest.main()
