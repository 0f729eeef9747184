"""Systems of screws, told by their bases in stairs ([15] to [17])."""
from sevenpins.errors import InvalidScrews, InvalidSystem
from sevenpins.ratios import ONE, ZERO, as_fractions, ratio
from sevenpins.rows import first_place, kernel_rows, stairs, whole_row
from sevenpins.screws import check_screw, is_screw, line_at, slide_along
from sevenpins.triples import check_direction, check_triple
from sevenpins.turnings import check_placing, placed_screw
from sevenpins.vectors import AXES, is_nought, vector_sum, vector_times


def numbers_of(screw):
    """The six numbers of a screw: LINE, then MOMENT."""
    return screw[0] + screw[1]


def row_of(screw):
    """Six whole numbers of which the screw is a multiple above 0."""
    return whole_row(numbers_of(screw))


def whole_screw(row):
    """The screw with these six whole numbers."""
    numbers = as_fractions(row)
    return (numbers[:3], numbers[3:])


def lead_place(screw):
    """The place of the screw's first number that is not 0, 6 for the nought screw."""
    return first_place([number[0] for number in numbers_of(screw)])


def is_system(value):
    """Whether a value, whatever it is, is the base of a system."""
    if not isinstance(value, tuple) or len(value) > 6 or not all(is_screw(part) for part in value):
        return False
    places = [lead_place(part) for part in value]
    if 6 in places or any(behind <= place for place, behind in zip(places, places[1:])):
        return False
    return all(stands_at(value, at, place) for at, place in enumerate(places))


def stands_at(screws, at, place):
    """Whether the number at this place is 1 in the screw with this index and 0 in the others."""
    column = [numbers_of(screw)[place] for screw in screws]
    return all(number == (ONE if index == at else ZERO) for index, number in enumerate(column))


def check_system(system):
    if not is_system(system):
        raise InvalidSystem(system)


def check_screws(screws):
    if not isinstance(screws, tuple):
        raise InvalidScrews(None)
    for index, screw in enumerate(screws):
        if not is_screw(screw):
            raise InvalidScrews(index)


def base_screw(row):
    """The multiple of a row of six whole numbers whose first number that is not 0 is 1."""
    lead = row[first_place(row)]
    numbers = [ratio(number, lead) for number in row]
    return (tuple(numbers[:3]), tuple(numbers[3:]))


def base_of(rows):
    """The base of the system that rows of six whole numbers make."""
    return tuple(base_screw(row) for row in stairs(rows))


def rows_in(system):
    return [row_of(screw) for screw in system]


def joined_bases(system, other):
    return base_of(rows_in(system) + rows_in(other))


def back_base(system):
    # The power takes LINE with MOMENT': with both halves exchanged, it is a sum of products number by number.
    exchanged = [row[3:] + row[:3] for row in rows_in(system)]
    return base_of(kernel_rows(exchanged, 6))


def met_bases(system, other):
    return back_base(joined_bases(back_base(system), back_base(other)))


def system_of(screws):
    """The system that these screws make."""
    check_screws(screws)
    return base_of(rows_in(screws))


def order_of(system):
    check_system(system)
    return len(system)


def is_in(system, screw):
    check_system(system)
    check_screw(screw)
    return found_shares(system, screw) is not None


def shares_of(system, screw):
    """The numbers by which the base's screws make the screw, None if it is not in the system."""
    check_system(system)
    check_screw(screw)
    return found_shares(system, screw)


def found_shares(system, screw):
    numbers = numbers_of(screw)
    shares = tuple(numbers[lead_place(part)] for part in system)
    total = (ZERO,) * 6
    for part, share in zip(system, shares):
        total = vector_sum(total, vector_times(numbers_of(part), share))
    return shares if total == numbers else None


def joined_systems(system, other):
    check_system(system)
    check_system(other)
    return joined_bases(system, other)


def meeting(system, other):
    check_system(system)
    check_system(other)
    return met_bases(system, other)


def back_of(system):
    """All screws with power 0 on each screw of the system."""
    check_system(system)
    return back_base(system)


def slides_of(base):
    # In stairs a sum has LINE nought only if it takes nothing of the screws whose first number is one of LINE.
    return tuple(screw for screw in base if is_nought(screw[0]))


def slides_in(system):
    check_system(system)
    return slides_of(system)


def resting_at(system, point):
    """The moves of the system that leave the point where it is."""
    check_system(system)
    check_triple(point)
    turns = system_of(tuple(line_at(point, axis) for axis in AXES))
    return met_bases(system, turns)


def placed_system(placing, system):
    check_placing(placing)
    check_system(system)
    return system_of(tuple(placed_screw(placing, screw) for screw in system))


def screws_in(system, point, direction):
    """The screws of the system in the plane through the point at right angles to the direction."""
    check_system(system)
    check_triple(point)
    check_direction(direction)
    turns = tuple(line_at(point, across) for across in directions_across(direction))
    return met_bases(system, system_of(turns + (slide_along(direction),)))


def directions_across(direction):
    """Two directions that make all triples at right angles to the direction."""
    rows = kernel_rows([whole_row(direction)], 3)
    return [as_fractions(row) for row in rows]
