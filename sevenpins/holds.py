"""Which touches hold a jig, and which of them are needless ([29] to [32])."""
from itertools import combinations

from sevenpins.balances import do_hold, is_left_by
from sevenpins.errors import TooMany
from sevenpins.touches import all_rows, check_jig, free_move_of, move_off, touch_rows

MOST_CHOSEN = 9


def kept_touches(jig):
    """The indexes of the touches that do not come off."""
    check_jig(jig)
    return tuple(index for index in range(len(jig)) if move_off(jig, index) is None)


def holders_among(jig, touches):
    """The indexes of those of the touches each of which, added to the jig, makes it hold."""
    check_jig(jig)
    check_jig(touches)
    rows = all_rows(jig)
    return tuple(index for index, touch in enumerate(touches) if do_hold(rows + touch_rows(touch)))


def check_few(jig):
    check_jig(jig)
    if len(jig) > MOST_CHOSEN:
        raise TooMany(len(jig))


def rows_among(lists, indexes):
    return tuple(row for index in indexes for row in lists[index])


def fewest_holding(jig):
    """The least of the tuples with the fewest indexes whose touches hold by themselves; None if the jig does not."""
    check_few(jig)
    lists = [touch_rows(touch) for touch in jig]
    if not do_hold(all_rows(jig)):
        return None
    # Each choice that does not hold leaves some move: no choice of touches that all leave this move holds.
    leaving = []
    for many in range(1, len(jig) + 1):
        for indexes in combinations(range(len(jig)), many):
            if any(all(index in told for index in indexes) for told in leaving):
                continue
            move = free_move_of(rows_among(lists, indexes))
            if move is None:
                return indexes
            leaving.append([index for index, rows in enumerate(lists) if is_left_by(rows, move)])
    return None


def needless_touches(jig):
    """The indexes of the touches without which, each by itself, the jig still holds; () if it does not hold."""
    check_few(jig)
    if not do_hold(all_rows(jig)):
        return ()
    return tuple(index for index in range(len(jig)) if do_hold(all_rows(jig[:index] + jig[index + 1:])))
