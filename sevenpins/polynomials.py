"""Polynomials with whole numbers and how many of their roots lie where; what is passed is not checked here.

A polynomial is a list of whole numbers, that of the highest power first and not 0; [] is the polynomial 0.
"""
from sevenpins.ratios import as_fractions, forward
from sevenpins.rows import cleared, first_place, weights_for, whole_row


def trimmed(row):
    return row[first_place(row):]


def derived(row):
    top = len(row) - 1
    return [number * (top - at) for at, number in enumerate(row[:top])]


def remainder(first, second):
    """A multiple above 0 of what is left of the first one, divided by the second one."""
    lead, left = forward(second), first
    over = len(first) - len(second)
    for place in range(over + 1):
        left = cleared(left, [0] * place + lead + [0] * (over - place), place)
    return trimmed(left)


def quotient(first, second):
    """A multiple above 0 of the first one over the second one, which divides it."""
    over = len(first) - len(second)
    shifts = [as_fractions([0] * place + second + [0] * (over - place)) for place in range(over + 1)]
    return whole_row(weights_for(shifts, as_fractions(first)))


def sign_chain(row):
    """The polynomial, what is derived of it, and each time the opposite of what is left of two in a row (Sturm)."""
    chain, following = [row], derived(row)
    while following:
        chain.append(following)
        following = [-number for number in remainder(chain[-2], chain[-1])]
    return chain


def root_chain(row):
    """The chain of signs of the polynomial that has the same roots as this one, not 0, each of them once."""
    chain = sign_chain(row)
    return sign_chain(quotient(row, chain[-1]))


def worth_at(row, above, below):
    """A multiple above 0 of what the polynomial is at above / below."""
    total, scale = 0, 1
    for number in row:
        total = total * above + number * scale
        scale *= below
    return total


def changes(numbers):
    """How often the sign changes along the numbers, noughts left out."""
    signs = [number > 0 for number in numbers if number != 0]
    return len([at for at in range(1, len(signs)) if signs[at] != signs[at - 1]])


def changes_below_all(chain):
    """The changes of signs along the chain below all roots."""
    return changes([-row[0] if len(row) % 2 == 0 else row[0] for row in chain])


def roots_in_all(chain):
    return changes_below_all(chain) - changes([row[0] for row in chain])


def roots_below(chain, above, below):
    """How many roots are below the fraction."""
    worths = [worth_at(row, above, below) for row in chain]
    up_to = changes_below_all(chain) - changes(worths)
    return up_to - 1 if worths[0] == 0 else up_to
