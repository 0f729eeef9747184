"""Consoles: a workshop by lines of text."""
from sevenpins.errors import InvalidPhrase, NotAWorkshop
from sevenpins.loads import bears
from sevenpins.phrases import jig_read, jig_text, screw_read
from sevenpins.touches import is_left, word_of
from sevenpins.workshops import Workshop, is_name


class Console:
    """Says lines to a workshop and tells its answers."""

    def __init__(self, shop):
        if not isinstance(shop, Workshop):
            raise NotAWorkshop(shop)
        self.shop = shop

    def say(self, line):
        """The answer to a line."""
        if not isinstance(line, str):
            raise InvalidPhrase(line)
        if line == "undo":
            self.shop.undo()
            return "done"
        if line == "names":
            return " ".join(self.shop.names) if self.shop.names else "none"
        word, _, rest = line.partition(" ")
        if word in ("drop", "jig", "word") and is_name(rest):
            return self.say_of_name(word, rest)
        name, _, text = rest.partition(": ")
        told = jig_read(text) if word == "put" else screw_read(text)
        if word not in ("put", "bears", "lets") or not is_name(name) or told is None:
            raise InvalidPhrase(line)
        return self.say_with(word, name, told)

    def say_of_name(self, word, name):
        if word == "drop":
            self.shop.drop(name)
            return "done"
        jig = self.shop.named(name)
        return jig_text(jig) if word == "jig" else word_of(jig)

    def say_with(self, word, name, told):
        """The answer to what tells a jig or a screw behind the name."""
        if word == "put":
            self.shop.put(name, told)
            return "done"
        jig = self.shop.named(name)
        so = bears(jig, told) if word == "bears" else is_left(jig, told)
        return "yes" if so else "no"
