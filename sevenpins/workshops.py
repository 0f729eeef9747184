"""Workshops: jigs under names, and wishes that hold after each change ([47])."""
from sevenpins.errors import Broken, InUse, InvalidIndex, InvalidName, InvalidWish, NothingToUndo, UnknownName
from sevenpins.loads import bears
from sevenpins.screws import is_screw
from sevenpins.touches import check_jig, comes_off, is_left, word_of
from sevenpins.triples import is_whole

LETTERS = "abcdefghijklmnopqrstuvwxyz"
MOST_LETTERS = 12


def is_name(value):
    """Whether a value is a name under which a jig can be kept."""
    return isinstance(value, str) and 1 <= len(value) <= MOST_LETTERS and all(sign in LETTERS for sign in value)


def is_wish(value):
    """Whether a value is told in the form of a wish."""
    if not isinstance(value, tuple) or len(value) < 2 or not isinstance(value[0], str) or not is_name(value[1]):
        return False
    word, parts = value[0], value[2:]
    if word == "held":
        return not parts
    if len(parts) != 1:
        return False
    if word == "on":
        return is_whole(parts[0]) and parts[0] >= 0
    return word in ("borne", "left") and is_screw(parts[0])


def does_hold(wish, jig):
    """Whether the wish holds of the jig under its name."""
    word = wish[0]
    if word == "held":
        return word_of(jig) == "held"
    if word == "borne":
        return bears(jig, wish[2])
    if word == "left":
        return is_left(jig, wish[2])
    return wish[2] < len(jig) and not comes_off(jig, wish[2])


class Begun:
    """What a workshop is when a block of a trial begins, and what was kept so when blocks around it began."""

    def __init__(self, shop, outer):
        self.jigs = shop.jigs
        self.wanted = shop.wanted
        self.earlier = shop.earlier
        self.outer = outer


class Trial:
    """Leads a workshop back to what it was when a block began, if the block ends with an exception."""

    def __init__(self, shop):
        self.shop = shop
        self.begun = None

    def __enter__(self):
        self.begun = Begun(self.shop, self.begun)
        return self.shop

    def __exit__(self, kind, value, trace):
        shop = self.shop
        if kind is not None:
            shop.jigs = self.begun.jigs
            shop.wanted = self.begun.wanted
            shop.earlier = self.begun.earlier
        self.begun = self.begun.outer


class Workshop:
    """Jigs under names, with wishes that always hold.

    A change puts new values in the place of those of the three attributes and changes none of them: so what was
    kept of them stays what it was.
    """

    def __init__(self):
        self.jigs = {}
        self.wanted = ()
        # The pairs of jigs and wishes that were there before each change, the last one last.
        self.earlier = ()

    def change(self, jigs, wanted):
        self.earlier = self.earlier + ((self.jigs, self.wanted),)
        self.jigs = jigs
        self.wanted = wanted

    def check_known(self, name):
        if name not in self:
            raise UnknownName(name)

    def put(self, name, jig):
        """Puts the jig under the name, or in the place of the one that is there."""
        if not is_name(name):
            raise InvalidName(name)
        check_jig(jig)
        for index, wish in enumerate(self.wanted):
            if wish[1] == name and not does_hold(wish, jig):
                raise Broken(index)
        self.change({**self.jigs, name: jig}, self.wanted)

    def drop(self, name):
        """Takes away the jig with this name."""
        self.check_known(name)
        for index, wish in enumerate(self.wanted):
            if wish[1] == name:
                raise InUse(index)
        self.change({other: self.jigs[other] for other in self.jigs if other != name}, self.wanted)

    def wish(self, wish):
        """Makes a wish, which must hold now, and from now on."""
        if not is_wish(wish):
            raise InvalidWish(wish)
        self.check_known(wish[1])
        if not does_hold(wish, self.jigs[wish[1]]):
            raise Broken(len(self.wanted))
        self.change(self.jigs, self.wanted + (wish,))

    def lift(self, index):
        """Takes away the wish with this index."""
        if not is_whole(index) or not 0 <= index < len(self.wanted):
            raise InvalidIndex(index)
        self.change(self.jigs, self.wanted[:index] + self.wanted[index + 1:])

    def named(self, name):
        """The jig with this name."""
        self.check_known(name)
        return self.jigs[name]

    def undo(self):
        """Takes back the last change."""
        if not self.earlier:
            raise NothingToUndo()
        self.jigs, self.wanted = self.earlier[-1]
        self.earlier = self.earlier[:-1]

    def trial(self):
        """For a `with` statement: if its block ends with an exception, all is as it was when the block began."""
        return Trial(self)

    def tried(self, action):
        """What the action returns that is called with the workshop, within a trial."""
        with self.trial() as shop:
            return action(shop)

    def __len__(self):
        return len(self.earlier)

    def __bool__(self):
        return True

    def __contains__(self, x):
        return isinstance(x, str) and x in self.jigs

    @property
    def names(self):
        """The names, ascending."""
        return tuple(sorted(self.jigs))

    @property
    def wishes(self):
        """The wishes, in the order in which they were made."""
        return self.wanted
