"""Lines, and how many lines cross told ones ([18])."""
from sevenpins.errors import Along, InvalidScrew, InvalidScrews
from sevenpins.pitches import pitch_count
from sevenpins.screws import is_line, line_at, power
from sevenpins.systems import back_of, system_of
from sevenpins.triples import check_triple, plain_direction
from sevenpins.vectors import vector_less

MOST_LINES = 6


def check_line(line):
    if not is_line(line):
        raise InvalidScrew(line)


def check_lines(lines):
    if not isinstance(lines, tuple) or not lines:
        raise InvalidScrews(None)
    for index, line in enumerate(lines):
        if index == MOST_LINES or not is_line(line):
            raise InvalidScrews(index)


def line_through(point, other):
    """The line through two points, LINE plain."""
    check_triple(point)
    check_triple(other)
    if point == other:
        raise Along()
    return line_at(point, plain_direction(vector_less(other, point)))


def do_cross(line, other):
    """Whether two lines meet in a point, or are parallel, or the same."""
    check_line(line)
    check_line(other)
    return power(line, other)[0] == 0


def lines_across(lines):
    """How many lines cross all of these: none, one, two or endless."""
    check_lines(lines)
    return pitch_count(back_of(system_of(lines)), (0, 1))
