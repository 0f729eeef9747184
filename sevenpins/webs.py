"""Webs: bodies and the joints between them, with all the moves that these let ([24])."""
from sevenpins.errors import InvalidNumber, InvalidWeb
from sevenpins.joints import is_joint, joint_base
from sevenpins.rows import kernel_rows, stairs
from sevenpins.systems import back_base, base_of, rows_in
from sevenpins.triples import is_whole

MOST_BODIES = 5
MOST_LINKS = 10


def is_body_number(value, most):
    return is_whole(value) and 0 <= value <= most


def is_between(value, bodies):
    """Whether a value is a tuple of the unlike numbers of two of so many bodies and the ground, and something more."""
    if not isinstance(value, tuple) or len(value) != 3:
        return False
    first, second, _ = value
    return is_body_number(first, bodies) and is_body_number(second, bodies) and first != second


def is_link(value, bodies):
    """Whether a value is a link of a web with so many bodies."""
    return is_between(value, bodies) and is_joint(value[2])


def is_web_pair(value):
    """Whether a value is a pair of a number of bodies and a tuple."""
    if not isinstance(value, tuple) or len(value) != 2:
        return False
    bodies, links = value
    return is_whole(bodies) and 1 <= bodies <= MOST_BODIES and isinstance(links, tuple)


def is_web(value):
    """Whether a value, whatever it is, is a web."""
    if not is_web_pair(value) or len(value[1]) > MOST_LINKS:
        return False
    return all(is_link(link, value[0]) for link in value[1])


def check_web(web):
    if not is_web_pair(web):
        raise InvalidWeb(None)
    for index, link in enumerate(web[1]):
        if index == MOST_LINKS or not is_link(link, web[0]):
            raise InvalidWeb(index)


def check_body_number(web, number):
    if not is_body_number(number, web[0]):
        raise InvalidNumber(number)


def part_at(row, number):
    """The six numbers of a row that are those of this body, noughts for the ground."""
    return row[6 * number - 6:6 * number] if number else [0] * 6


def link_rows(link, bodies):
    """The rows of the link's bonds: the power of what the joint bears on the second body's move less the first's."""
    first, second, joint = link
    found = []
    for bond in rows_in(back_base(joint_base(joint))):
        # The power takes LINE with MOMENT', so the halves are exchanged.
        pushed = bond[3:] + bond[:3]
        row = [0] * (6 * bodies + 6)
        row[6 * second:6 * second + 6] = pushed
        row[6 * first:6 * first + 6] = [-number for number in pushed]
        # The ground, which does not move, stands ahead of the bodies.
        found.append(row[6:])
    return found


def rows_by_link(web):
    return [link_rows(link, web[0]) for link in web[1]]


def one_list(lists):
    return [row for rows in lists for row in rows]


def web_moves(web):
    """Rows of 6 N numbers that make the moves of the web."""
    return kernel_rows(one_list(rows_by_link(web)), 6 * web[0])


def freedom(web):
    """The order of the moves of the web."""
    check_web(web)
    return 6 * web[0] - len(stairs(one_list(rows_by_link(web))))


def spare_bonds(web):
    """How many bonds can be left out without setting free anything."""
    check_web(web)
    rows = one_list(rows_by_link(web))
    return len(rows) - len(stairs(rows))


def body_moves(web, number):
    """The system of the moves that the body has."""
    check_web(web)
    check_body_number(web, number)
    return base_of([part_at(row, number) for row in web_moves(web)])


def moves_between(web, number, other):
    """The system of the moves that the second body has against the first one."""
    check_web(web)
    check_body_number(web, number)
    check_body_number(web, other)
    found = []
    for row in web_moves(web):
        its, own = part_at(row, other), part_at(row, number)
        found.append([a - b for a, b in zip(its, own)])
    return base_of(found)


def needless_links(web):
    """The indexes of the links without which, each by itself, the web has the same moves."""
    check_web(web)
    lists = rows_by_link(web)
    bound = len(stairs(one_list(lists)))
    found = []
    for index in range(len(lists)):
        others = lists[:index] + lists[index + 1:]
        if len(stairs(one_list(others))) == bound:
            found.append(index)
    return tuple(found)
