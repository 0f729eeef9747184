"""The examples of the document, in its order: names that an example makes hold in those behind it."""
import unittest

TRIPLES = """
>>> from sevenpins.triples import cross, dot, fraction_of, is_direction, is_fraction, is_triple, plain_direction, triple_sum, triple_times
>>> zero, half, one, two, less = (0, 1), (1, 2), (1, 1), (2, 1), (-1, 1)
>>> o, x, y, z = (zero, zero, zero), (one, zero, zero), (zero, one, zero), (zero, zero, one)
>>> [is_fraction((2, 4)), is_triple(o), is_direction(o), is_triple((1, 2, 3)), fraction_of(6, -4), dot(x, ((3, 2), (5, 1), (0, 1))), cross(x, y) == z, cross(y, x)]
[False, True, False, False, (-3, 2), (3, 2), True, ((0, 1), (0, 1), (-1, 1))]
>>> [triple_sum(x, triple_times(y, (1, 2))), plain_direction(((0, 1), (-1, 2), (1, 3))), plain_direction(triple_times(z, (-7, 3))) == z]
[((1, 1), (1, 2), (0, 1)), ((0, 1), (3, 1), (-2, 1)), True]
"""

SCREWS = """
>>> from sevenpins.screws import apart_square, axis_point, is_line, is_screw, line_at, moment_at, nearest_points, pitch_of, power, screw_about, screw_sum, screw_times, slide_along
>>> [line_at(x, y) == (y, z), slide_along(z) == (o, z), is_line((o, z)), is_line((y, z)), is_screw((x, 1)), pitch_of(screw_about(x, z, (2, 1))), pitch_of((o, z)), axis_point(line_at(x, y)) == x]
[True, True, False, True, False, (2, 1), None, True]
>>> [power(line_at(o, x), slide_along(x)), power(line_at(y, x), line_at(o, z)), moment_at(line_at(o, z), x) == y, screw_about(x, z, (2, 1)), pitch_of(screw_sum(line_at(o, x), line_at(z, y)))]
[(1, 1), (-1, 1), True, (((0, 1), (0, 1), (1, 1)), ((0, 1), (-1, 1), (2, 1))), (-1, 2)]
>>> [nearest_points(line_at(o, x), line_at(z, y)) == (o, z), apart_square(line_at(o, x), line_at(z, y)), apart_square(line_at(o, x), line_at(z, x)), screw_times((y, z), (-1, 2))]
[True, (1, 1), (1, 1), (((0, 1), (-1, 2), (0, 1)), ((0, 1), (0, 1), (-1, 2)))]
"""


def parted(text):
    """Pairs of a row of code and what is told behind it, None for nothing."""
    rows = [row for row in text.split("\n") if row]
    for at, row in enumerate(rows):
        if row.startswith(">>> "):
            told = rows[at + 1] if at + 1 < len(rows) and not rows[at + 1].startswith(">>> ") else None
            yield row[4:], told


class Examples(unittest.TestCase):
    def run_examples(self, *texts):
        names = {}
        for text in texts:
            for code, told in parted(text):
                if told is None:
                    exec(code, names)
                else:
                    self.assertEqual(repr(eval(code, names)), told, code)

    def test_triples(self):
        self.run_examples(TRIPLES)

    def test_screws(self):
        self.run_examples(TRIPLES, SCREWS)


if __name__ == "__main__":
    unittest.main()
