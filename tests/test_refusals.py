"""The refusals -3, -1, -4 and their order, for at, near and bevel."""

import unittest

from boathull.floor import answers
from reference import FAR, LARGEST, ask, ask_last, at, bevel, make, near

TABLE = make([10, 15, 20], [-8, 0, 5], [4] * 9)
INSIDE = ((10, -8), (10, 5), (20, -8), (20, 5), (15, 0), (12, 3))
OUTSIDE = (
    (9, 0), (21, 0), (15, -9), (15, 6), (9, -9), (21, 6), (9, 6), (21, -9), (0, 0), (-10, 0), (15, 8),
    (LARGEST, 0), (-LARGEST - 1, 0), (15, LARGEST + 1), (15, -LARGEST - 1),
    (FAR, 0), (-FAR - 1, 0), (15, FAR), (15, -FAR - 1), (FAR, FAR), (-FAR - 1, -FAR - 1),
)
WRONG_WHATS = (-1, 3, 4, -2, LARGEST, FAR, -FAR - 1)


class NoTable(unittest.TestCase):
    def test_nothing_else_is_looked_at(self):
        for x, z in INSIDE + OUTSIDE:
            for call in (near(x, z), bevel(x, z), at(x, z, 0), at(x, z, 1), at(x, z, 2), at(x, z, 3), at(x, z, -1)):
                self.assertEqual(ask(call), [[-3]], call)

    def test_a_refusal_is_its_number_alone(self):
        self.assertEqual(answers(at(0, 0, 0) + near(0, 0) + bevel(0, 0)), [1, -3, 1, -3, 1, -3])


class WrongWhat(unittest.TestCase):
    def test_within_the_hull_and_without(self):
        for what in WRONG_WHATS:
            for x, z in INSIDE + OUTSIDE:
                self.assertEqual(ask_last(TABLE, at(x, z, what)), [-1], (x, z, what))


class Outside(unittest.TestCase):
    def test_points_outside(self):
        for x, z in OUTSIDE:
            calls = [near(x, z), bevel(x, z), at(x, z, 0), at(x, z, 1), at(x, z, 2)]
            self.assertEqual(ask(TABLE, *calls)[1:], [[-4]] * 5, (x, z))

    def test_the_ends_and_what_lies_between_are_allowed(self):
        for x, z in INSIDE:
            calls = [near(x, z), bevel(x, z), at(x, z, 0), at(x, z, 1), at(x, z, 2)]
            self.assertEqual(ask(TABLE, *calls)[1:], [[0, 4], [0, 0], [0, 4, 1], [0, 0, 1], [0, 0, 1]], (x, z))

    def test_the_outermost_measures(self):
        table = make([0, LARGEST], [-LARGEST, LARGEST], [3] * 4)
        for x in (-1, 0, LARGEST, LARGEST + 1):
            for z in (-LARGEST - 1, -LARGEST, LARGEST, LARGEST + 1):
                within = 0 <= x <= LARGEST and -LARGEST <= z <= LARGEST
                self.assertEqual(ask_last(table, near(x, z)), [0, 3] if within else [-4], (x, z))


class TheObjectStays(unittest.TestCase):
    def test_refusals_change_nothing(self):
        told = ask(TABLE, at(10, 0, 7), near(10, 0), at(9, 0, 0), near(10, 0), near(9, 0), bevel(9, 0), near(10, 0))
        self.assertEqual(told[1:], [[-1], [0, 4], [-4], [0, 4], [-4], [-4], [0, 4]])

    def test_a_table_behind_a_refusal(self):
        self.assertEqual(ask(near(10, 0), TABLE, near(10, 0)), [[-3], [0, 0, 0], [0, 4]])


if __name__ == "__main__":
    unittest.main()
