"""Consoles: a workshop by lines of text."""
import re
import unittest
from math import gcd

from sevenpins.consoles import Console
from sevenpins.errors import (
    Broken, InUse, InvalidPhrase, NotAWorkshop, NothingToUndo, ScrewError, UnknownName,
)
from sevenpins.loads import is_borne
from sevenpins.touches import is_jig, is_left, placed_jig, word_of
from sevenpins.workshops import Workshop
from tests.helpers import ANYTHING, NOUGHT, X, Y, Z, check_refusals, given, refused, screw, triple
from tests.jigs import JigDraws, own_jig_rows

BED = "stop 0/1 0/1 0/1 0/1 0/1 1/1; cup 1/2 0/1 0/1"
HALF_CUP = ("cup", ((1, 2), (0, 1), (0, 1)))


# The tests' own writing and reading.

def own_fraction(told):
    return f"{told[0]}/{told[1]}"


def own_triples(triples):
    return " ".join(own_fraction(part) for told in triples for part in told)


def own_touch(touch):
    parts = touch[1] + touch[2:] if touch[0] == "rest" else touch[1:]
    return touch[0] + " " + own_triples(parts)


def own_text(jig):
    return "; ".join(own_touch(touch) for touch in jig)


FRACTION = r"(?:0/1|-?[1-9][0-9]*/[1-9][0-9]*)"
TRIPLE = " ".join([FRACTION] * 3)
TOUCH = (
    rf"(?:(?:stop|pin)(?: {TRIPLE}){{2}}|rest(?: {TRIPLE}){{3,7}}|groove(?: {TRIPLE}){{3}}|cup {TRIPLE})"
)
NAME = "[a-z]{1,12}"
PUT = re.compile(rf"put ({NAME}): ({TOUCH}(?:; {TOUCH})*)")
ASK = re.compile(rf"(bears|lets) ({NAME}): ({TRIPLE} {TRIPLE})")
BARE = re.compile(rf"undo|names|(?:drop|jig|word) {NAME}")


def own_numbers(text):
    """The triples that a text tells, None if a fraction is not reduced."""
    pairs = [tuple(int(part) for part in word.split("/")) for word in text.split(" ")]
    if any(gcd(*pair) != 1 for pair in pairs):
        return None
    return [tuple(pairs[at:at + 3]) for at in range(0, len(pairs), 3)]


def own_jig(text):
    jig = []
    for part in text.split("; "):
        word, rest = part.split(" ", 1)
        triples = own_numbers(rest)
        if triples is None:
            return None
        jig.append((word, tuple(triples[:-1]), triples[-1]) if word == "rest" else (word,) + tuple(triples))
    return tuple(jig) if is_jig(tuple(jig)) else None


def own_is_phrase(line):
    if BARE.fullmatch(line):
        return True
    put, ask = PUT.fullmatch(line), ASK.fullmatch(line)
    if put:
        return own_jig(put[2]) is not None
    return bool(ask) and own_numbers(ask[3]) is not None


class Case(unittest.TestCase):
    def setUp(self):
        self.shop = Workshop()
        self.console = Console(self.shop)

    def told(self):
        return self.shop.names, self.shop.wishes, len(self.shop)

    def refused_line(self, line, error=InvalidPhrase):
        before = self.told()
        with self.assertRaises(ScrewError) as held:
            self.console.say(line)
        self.assertIs(type(held.exception), error, line)
        if error is InvalidPhrase:
            self.assertIs(held.exception.given, line)
        self.assertEqual(self.told(), before)
        return held.exception


class Lines(Case):
    def test_each_form(self):
        say = self.console.say
        self.assertEqual(say("names"), "none")
        self.assertEqual(say("put bed: " + BED), "done")
        self.assertEqual(self.shop.named("bed"), (("stop", NOUGHT, Z), HALF_CUP))
        self.assertEqual(say("put a: pin 0/1 -1/1 0/1 1/3 0/1 -5/7"), "done")
        self.assertEqual(self.shop.named("a"), (("pin", triple((0, -1, 0)), ((1, 3), (0, 1), (-5, 7))),))
        self.assertEqual(say(line="names"), "a bed")
        self.assertEqual(say("jig bed"), BED)
        self.assertEqual((say("word bed"), say("word a")), ("loose", "kept"))
        self.assertEqual(say("bears bed: 0/1 0/1 -1/1 0/1 0/1 0/1"), "yes")
        self.assertEqual(say("bears bed: 0/1 0/1 1/1 0/1 0/1 0/1"), "no")
        self.assertEqual(say("lets bed: 1/1 0/1 0/1 0/1 0/1 0/1"), "yes")
        self.assertEqual(say("lets bed: 0/1 0/1 0/1 1/1 0/1 0/1"), "no")
        self.assertEqual(len(self.shop), 2)
        self.assertEqual(say("drop a"), "done")
        self.assertEqual((say("names"), len(self.shop)), ("bed", 3))
        self.assertEqual(say("undo"), "done")
        self.assertEqual((say("names"), len(self.shop)), ("a bed", 2))
        self.assertEqual([say("undo"), say("undo"), say("names")], ["done", "done", "none"])
        self.assertEqual(self.told(), ((), (), 0))

    def test_each_touch(self):
        jig = (
            ("stop", X, Z), ("rest", (X, Y), Z), ("rest", (X, Y, Z, NOUGHT, triple((5, 5, 5)), triple((0, 0, -1))), Z),
            ("groove", X, Y, Z), ("pin", X, Y), HALF_CUP,
        )
        self.console.say("put all: " + own_text(jig))
        self.assertEqual(self.shop.named("all"), jig)
        self.assertEqual(self.console.say("jig all"), own_text(jig))

    def test_drawn_jigs(self):
        draws = JigDraws(501)
        for _ in range(80):
            jig, name = draws.jig(), draws.pick(("a", "bed", "abcdefghijkl"))
            self.assertEqual(self.console.say(f"put {name}: {own_text(jig)}"), "done")
            self.assertEqual(self.shop.named(name), jig)
            text = self.console.say("jig " + name)
            self.assertEqual(text, own_text(jig))
            self.assertEqual(self.console.say("put again: " + text), "done")
            self.assertEqual(self.shop.named("again"), jig)
            self.assertEqual(self.console.say("word " + name), word_of(jig))
            for told in (draws.push(jig), draws.screw(), draws.plain_screw()):
                phrase = own_triples(told)
                borne, left = is_borne(jig, told), is_left(jig, told)
                self.assertEqual(self.console.say(f"bears {name}: {phrase}"), "yes" if borne else "no")
                self.assertEqual(self.console.say(f"lets {name}: {phrase}"), "yes" if left else "no")
            self.assertEqual(self.console.say("names"), " ".join(self.shop.names))

    def test_numbers_of_thousands_of_figures(self):
        """What the console tells is put again, whatever the size of its numbers; Python's own `str` stops at 4300."""
        jig, placing = (("stop", X, triple((1, 2, 3))), ("cup", Y)), ((10 ** 50 + 7, 10 ** 49 + 3, 5, 9), Z)
        while len(hex(jig[0][1][0][1])) < 6000:
            jig = placed_jig(jig, placing)
        self.shop.put("far", jig)
        text = self.console.say("jig far")
        self.assertGreater(len(text), 30000)
        self.assertEqual(self.console.say("put far: " + text), "done")
        self.assertEqual(self.shop.named("far"), jig)
        for power in (63, 64, 65, 127, 128, 129, 5000):
            for number in (10 ** power, 10 ** power - 1, 10 ** power + 1, -10 ** power):
                self.shop.put("a", (("cup", ((number, 1), (0, 1), (1, 1))),))
                text = self.console.say("jig a")
                sign, value = ("-", -number) if number < 0 else ("", number)
                figures = "1" + "0" * power if value == 10 ** power else (
                    "9" * power if value < 10 ** power else "1" + "0" * (power - 1) + "1")
                self.assertEqual(text, f"cup {sign}{figures}/1 0/1 1/1")
                self.console.say("put a: " + text)
                self.assertEqual(self.shop.named("a")[0][1][0], (number, 1))

    def test_two_consoles_on_one_workshop(self):
        other = Console(shop=self.shop)
        self.console.say("put a: cup 0/1 0/1 0/1")
        self.assertEqual(other.say("names"), "a")
        with self.assertRaises(KeyError):
            with self.shop.trial():
                other.say("drop a")
                raise KeyError
        self.assertEqual(self.console.say("names"), "a")
        self.assertTrue(self.console)
        self.assertTrue(self.console == self.console)
        self.assertFalse(self.console == other)
        self.assertTrue(self.console != other)

    def test_what_the_workshop_refuses(self):
        self.refused_line("undo", NothingToUndo)
        for line in ("drop a", "jig a", "word a", "bears a: " + own_triples((X, Y)), "lets a: " + own_triples((X, Y))):
            self.assertEqual(self.refused_line(line, UnknownName).given, "a")
        self.console.say("put vice: stop 0/1 0/1 0/1 0/1 0/1 1/1; stop 0/1 0/1 0/1 0/1 0/1 -1/1")
        self.shop.wish(("borne", "vice", screw((0, 0, 1, 0, 0, 0))))
        self.shop.wish(("on", "vice", 1))
        self.assertEqual(self.refused_line("drop vice", InUse).index, 0)
        self.assertEqual(self.refused_line("put vice: " + BED, Broken).index, 0)
        self.assertEqual(self.refused_line("put vice: cup 0/1 0/1 0/1", Broken).index, 1)
        self.assertEqual(self.console.say("put vice: cup 0/1 0/1 0/1; cup 0/1 0/1 0/1"), "done")


class Phrases(Case):
    def lines(self):
        draws = JigDraws(502)
        self.shop.put("bed", (("cup", X),))
        for _ in range(12):
            jig = draws.small_jig(6)
            yield draws, "put bed: " + own_text(jig)
            yield draws, f"bears bed: {own_triples(draws.screw())}"
            yield draws, f"lets bed: {own_triples(draws.plain_screw())}"
        for line in ("names", "undo", "jig bed", "word bed", "drop bed", "put bed: " + BED):
            yield draws, line

    def check(self, line):
        if own_is_phrase(line):
            try:
                answer = self.console.say(line)
            except (UnknownName, NothingToUndo):
                return
            self.assertIs(type(answer), str)
        else:
            self.refused_line(line)

    def test_bent_lines(self):
        """Lines in which a sign or two are put in, left out or changed, against the tests' own reading."""
        seen = {True: 0, False: 0}
        for draws, line in self.lines():
            self.check(line)
            self.assertTrue(own_is_phrase(line))
            for _ in range(60):
                bent = line
                for _ in range(draws.whole(1, 2)):
                    at = draws.whole(0, len(bent))
                    sign = draws.pick("  ;:/-+0123456789abstopuA\t\n._,")
                    kind = draws.whole(0, 3)
                    if kind == 0:
                        bent = bent[:at] + sign + bent[at:]
                    elif kind == 1:
                        bent = bent[:at] + sign + bent[at + 1:]
                    elif kind == 2:
                        bent = bent[:at] + bent[at + 1:]
                    else:
                        bent = bent[:at] + bent[at:at + draws.whole(1, 8)] + bent[at:]
                seen[own_is_phrase(bent)] += 1
                self.check(bent)
        self.assertGreater(min(seen.values()), 100)

    def test_bent_fractions(self):
        good = "put a: cup {} 0/1 0/1"
        for text in ("1/2", "-1/2", "0/1", "7/1", "1000000000000000000000000000001/10", "-3/10"):
            self.assertEqual(self.console.say(good.format(text)), "done")
        for text in (
            "2/4", "1/-2", "-1/-2", "+1/2", "1/+2", "01/2", "1/02", "00/1", "-0/1", "0/2", "1/0", "0/0", "1", "1/",
            "/2", "1//2", "1/2/3", "1.0/2", "1_0/3", "1/1_0", "", "-/1", "--1/2", "1 /2", "1/ 2", "1/2 ", " 1/2",
            "1\\2", "\u0661/2", "\u00b2/1", "1e1/1", "0x1/1", "a/1", "None", "-", "1/2\t", "\t1/2", "\uff11/2",
            "1/2\n",
        ):
            self.refused_line(good.format(text))

    def test_touches_that_make_no_jig(self):
        cup, stop = "cup 0/1 0/1 0/1", "stop 0/1 0/1 0/1 0/1 0/1 1/1"
        rest = "rest " + own_triples((NOUGHT, X, Y, Z, triple((2, 0, 0)), triple((0, 2, 0)), Z))
        for text in (
            "; ".join([stop] * 13), "; ".join([cup] * 9), "; ".join([rest] * 5), "; ".join([rest] * 4 + [stop]),
            "stop 0/1 0/1 0/1 0/1 0/1 0/1", "groove " + own_triples((X, Y, Y)), "groove " + own_triples((X, Y)),
            "rest " + own_triples((X, X, Z)), "rest " + own_triples((X, Z)), "rest " + own_triples((X, Y, NOUGHT)),
            "rest " + own_triples((NOUGHT, X, Y, Z, triple((2, 0, 0)), triple((0, 2, 0)), triple((0, 0, 2)), Z)),
            "cup", "cup ", "cup 0/1 0/1", cup + " 0/1", "pin " + own_triples((X,)), "Cup 0/1 0/1 0/1", "", " ", ";",
            "turn " + own_triples((X, Y)), cup + ";" + cup, cup + " ; " + cup, cup + ";  " + cup, cup + "; ",
            "; " + cup, cup + ";", cup + "; ; " + cup, "cup  0/1 0/1 0/1", "cup 0/1  0/1 0/1", cup + " ", " " + cup,
            "cup\t0/1 0/1 0/1", "cups 0/1 0/1 0/1", "rest 0/1", "rest", "stop " + own_triples((X, Y, Z)),
        ):
            self.refused_line("put a: " + text)
        for text in ("; ".join([stop] * 12), "; ".join([cup] * 8), "; ".join([rest] * 4)):
            self.assertEqual(self.console.say("put a: " + text), "done")

    def test_other_words_and_names(self):
        self.console.say("put bed: " + BED)
        ends = ["", " ", "  bed", " bed ", " Bed", " bed1", " b d", " abcdefghijklm", "bed", " bed bed", "\tbed"]
        ends.append(" bed\n")
        for word in ("drop", "jig", "word"):
            for end in ends + [" bed: ", " bed:"]:
                self.refused_line(word + end)
        push = own_triples((X, Y))
        for word, text in (("put", BED), ("bears", push), ("lets", push)):
            for end in ends + [" bed", " bed:"]:
                if end != " bed":
                    self.refused_line(word + end + ": " + text)
            for middle in (" bed:", " bed :", " bed : ", " bed:  ", " bed ", " bed; ", " bed:: ", " bed:\t"):
                self.refused_line(word + middle + text)
            self.refused_line(word + " bed: ")
            self.refused_line(word.upper() + " bed: " + text)
            self.refused_line(word + " bed: " + text + " ")
            self.refused_line(word + " bed: " + text + "\n")
        for line in (
            "", " ", "undo ", " undo", "Undo", "undo bed", "names ", "names bed", "name", "wish held bed", "lift 0",
            "bed", "put", "put bed", "done", "none", "undo\n", "names\n", "undo; undo", "bears bed", "trial", "len",
            "bears bed: " + own_triples((X,)), "bears bed: " + own_triples((X, Y, Z)), "lets bed: " + BED,
            "bears bed: " + push + " 0/1", "lets bed: " + push[:-4], "bears bed: " + push[:-8], "lets bed: 0/1 0/1",
            "bears bed: stop " + push, "put bed: " + push, "word bed: " + BED,
            "holds bed: " + push, "bear bed: " + push, "drop bed; drop bed", "put bed: " + BED + "; undo",
        ):
            self.refused_line(line)

    def test_what_is_no_string(self):
        lines = [value for value in ANYTHING] + [("undo",), b"undo", ["names"], {"undo": 1}, 0]
        check_refusals(self, self.console.say, {"line": "names"}, {"line": given(lines, InvalidPhrase)})

    def test_phrase_before_all_else(self):
        """A line of no form is refused as such, whatever else is wrong with it."""
        for line in ("bears other: 1/1", "jig other ", "put other: cup 0/1", "drop toolonganame of"):
            self.refused_line(line)


class Refusals(Case):
    def test_not_a_workshop(self):
        values = [value for value in ANYTHING] + [Workshop, self.console, ("bed",)]
        check_refusals(self, Console, {"shop": self.shop}, {"shop": given(values, NotAWorkshop)})

    def test_an_answer_changes_nothing(self):
        self.console.say("put bed: " + BED)
        before = self.told()
        push = own_triples((X, Y))
        for line in ("names", "jig bed", "word bed", "bears bed: " + push, "lets bed: " + push):
            self.assertEqual(self.console.say(line), self.console.say(line))
            self.assertEqual(self.told(), before)
        self.assertEqual(len(own_jig_rows(self.shop.named("bed"))), 4)
        refused(self, InvalidPhrase, lambda: self.console.say(""), {"given": ""})


if __name__ == "__main__":
    unittest.main()
