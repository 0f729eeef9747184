"""Heaps of bodies that push one another: what is left to them, what they bear ([38], [39])."""
from sevenpins.balances import balance_or_bar, bar_of, full_balance_or_bar
from sevenpins.errors import InvalidHeap, InvalidScrews
from sevenpins.ratios import ZERO, as_fractions
from sevenpins.rows import kernel_rows, stairs, whole_row
from sevenpins.screws import is_screw
from sevenpins.systems import numbers_of
from sevenpins.tables import Table
from sevenpins.touches import MOST_ROWS, count_rows, is_touch, touch_rows
from sevenpins.triples import is_whole
from sevenpins.vectors import vector_dot, vector_times, vector_total
from sevenpins.webs import is_between

MOST_BODIES = 3
MOST_CONTACTS = 10


def is_contact(value, bodies):
    """Whether a value is a contact of a heap with so many bodies."""
    return is_between(value, bodies) and is_touch(value[2])


def is_heap_pair(value):
    """Whether a value is a pair of a number of bodies and a tuple that is not ()."""
    if not isinstance(value, tuple) or len(value) != 2:
        return False
    bodies, contacts = value
    return is_whole(bodies) and 1 <= bodies <= MOST_BODIES and isinstance(contacts, tuple) and len(contacts) > 0


def heap_fault(bodies, contacts):
    """The index of the first contact by which this is no heap, None if there is none."""
    rows = 0
    for index, contact in enumerate(contacts):
        if index == MOST_CONTACTS or not is_contact(contact, bodies):
            return index
        rows += count_rows(contact[2])
        if rows > MOST_ROWS:
            return index
    return None


def is_heap(value):
    """Whether a value, whatever it is, is a heap."""
    return is_heap_pair(value) and heap_fault(value[0], value[1]) is None


def check_heap(heap):
    if not is_heap_pair(heap):
        raise InvalidHeap(None)
    fault = heap_fault(heap[0], heap[1])
    if fault is not None:
        raise InvalidHeap(fault)


def check_pushes(heap, pushes):
    if not isinstance(pushes, tuple) or len(pushes) != heap[0]:
        raise InvalidScrews(None)
    for index, push in enumerate(pushes):
        if not is_screw(push):
            raise InvalidScrews(index)


def contact_column(push, first, second, bodies):
    """The six numbers for each body of a push on the second one and of its opposite on the first one."""
    numbers = numbers_of(push)
    # The ground, which nothing pushes away, stands ahead of the bodies.
    column = [ZERO] * (6 * bodies + 6)
    column[6 * second:6 * second + 6] = numbers
    column[6 * first:6 * first + 6] = vector_times(numbers, (-1, 1))
    return tuple(column[6:])


def columns_and_ways(heap):
    """The rows of the heap by their numbers, and for each whether it pushes both ways."""
    columns, ways = [], []
    for first, second, touch in heap[1]:
        for push, both in touch_rows(touch):
            columns.append(contact_column(push, first, second, heap[0]))
            ways.append(both)
    return columns, ways


def moves_barring(bar):
    """One move for each body: their powers on pushes are the products of what bars with these; None for None."""
    if bar is None:
        return None
    return tuple((bar[at + 3:at + 6], bar[at:at + 3]) for at in range(0, len(bar), 6))


def full_weights_or_moves(heap):
    """A pair: weights, above 0 for the rows one way, that make 0, or else left moves with a power above 0 on one."""
    columns, ways = columns_and_ways(heap)
    weights, bar = full_balance_or_bar(columns, ways)
    return weights, moves_barring(bar)


def moves_of_rows(columns, width):
    """Rows of this width, in the order of pushes, that make all moves with power 0 on each column."""
    return kernel_rows([whole_row(column) for column in columns], width)


def heap_word(heap):
    """held, kept or loose."""
    check_heap(heap)
    if full_weights_or_moves(heap)[0] is None:
        return "loose"
    columns, _ = columns_and_ways(heap)
    return "held" if len(stairs([whole_row(column) for column in columns])) == 6 * heap[0] else "kept"


def heap_move(heap):
    """Moves that are left, not all 0; None for a heap that is held."""
    check_heap(heap)
    columns, _ = columns_and_ways(heap)
    for row in moves_of_rows(columns, 6 * heap[0]):
        return moves_barring(as_fractions(row))
    return full_weights_or_moves(heap)[1]


def heap_weights(heap):
    """Weights, above 0 for all rows one way, that make the push 0 on each body; None for a loose heap."""
    check_heap(heap)
    weights, _ = full_weights_or_moves(heap)
    return None if weights is None else tuple(weights)


def kept_columns(columns, ways):
    """The columns on which all moves that are left have power 0."""
    both_ways = [column for column, both in zip(columns, ways) if both]
    one_way = [column for column, both in zip(columns, ways) if not both]
    table = Table(columns, (ZERO,) * len(columns[0]), ways)
    while one_way:
        # Their powers are from 0 on, so all of them are 0 exactly if that of their sum cannot be above 0.
        table.aim(vector_times(vector_total(one_way, len(columns[0])), (-1, 1)))
        bar = bar_of(table)
        if bar is None:
            break
        one_way = [column for column in one_way if vector_dot(column, bar)[0] == 0]
    return both_ways + one_way


def is_still(number, rows):
    return not any(any(row[6 * number - 6:6 * number]) for row in rows)


def still_bodies(heap):
    """The numbers of the bodies whose move is 0 in all moves that are left."""
    check_heap(heap)
    columns, ways = columns_and_ways(heap)
    # The moves that are left make, with their opposites, all moves with power 0 on the kept columns.
    rows = moves_of_rows(kept_columns(columns, ways), 6 * heap[0])
    return tuple(number for number in range(1, heap[0] + 1) if is_still(number, rows))


def balance_or_moves(heap, pushes):
    """A pair: weights that make the opposites of the pushes, or else left moves of [39] that break them."""
    columns, ways = columns_and_ways(heap)
    numbers = ()
    for push in pushes:
        numbers += numbers_of(push)
    weights, bar = balance_or_bar(columns, ways, numbers)
    return weights, moves_barring(bar)


def heap_bears(heap, pushes):
    """Whether the pushes, one for each body, are borne."""
    check_heap(heap)
    check_pushes(heap, pushes)
    return balance_or_moves(heap, pushes)[0] is not None


def heap_balance(heap, pushes):
    """Weights that make the opposites of the pushes, None if they are not borne."""
    check_heap(heap)
    check_pushes(heap, pushes)
    weights, _ = balance_or_moves(heap, pushes)
    return None if weights is None else tuple(weights)


def heap_breaking(heap, pushes):
    """Left moves whose powers on the pushes have a sum above 0, None if the pushes are borne."""
    check_heap(heap)
    check_pushes(heap, pushes)
    return balance_or_moves(heap, pushes)[1]
