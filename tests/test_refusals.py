"""The refusals -3, -1, -4 and their order, for all calls but make."""

import unittest

from boathull.floor import answers
from reference import FAR, LARGEST, ask, ask_last, at, bevel, frame, inside, level, make, near

TABLE = make([10, 15, 20], [-8, 0, 5], [4] * 9)
WITHIN = ((10, -8), (10, 5), (20, -8), (20, 5), (15, 0), (12, 3))
OUTSIDE = (
    (9, 0), (21, 0), (15, -9), (15, 6), (9, -9), (21, 6), (9, 6), (21, -9), (0, 0), (-10, 0), (15, 8),
    (LARGEST, 0), (-LARGEST - 1, 0), (15, LARGEST + 1), (15, -LARGEST - 1),
    (FAR, 0), (-FAR - 1, 0), (15, FAR), (15, -FAR - 1), (FAR, FAR), (-FAR - 1, -FAR - 1),
)
WRONG_WHATS = (-1, 3, 4, -2, LARGEST, FAR, -FAR - 1)
GOOD_THICKNESSES = (0, 1, 16, LARGEST - 1, LARGEST)
WRONG_THICKNESSES = (-1, -2, -16, -LARGEST, -LARGEST - 1, LARGEST + 1, LARGEST + 2, FAR, -FAR - 1)
PLACES_WITHIN = (10, 11, 15, 19, 20)
PLACES_OUTSIDE = (9, 21, 0, -10, -15, LARGEST, -LARGEST - 1, FAR, -FAR - 1)
HEIGHTS_WITHIN = (-8, -7, 0, 4, 5)
HEIGHTS_OUTSIDE = (-9, 6, 8, 10, LARGEST, -LARGEST - 1, FAR, -FAR - 1)


def calls_with_both(x, z):
    return [near(x, z), bevel(x, z), at(x, z, 0), at(x, z, 1), at(x, z, 2), inside(x, z, 0), inside(x, z, LARGEST)]


class NoTable(unittest.TestCase):
    def test_nothing_else_is_looked_at(self):
        for x, z in WITHIN + OUTSIDE:
            wrong = [at(x, z, 3), at(x, z, -1), inside(x, z, -1), inside(x, z, LARGEST + 1)]
            for call in calls_with_both(x, z) + wrong:
                self.assertEqual(ask(call), [[-3]], call)

    def test_frame(self):
        for x in PLACES_WITHIN + PLACES_OUTSIDE:
            for t in GOOD_THICKNESSES + WRONG_THICKNESSES:
                self.assertEqual(ask(frame(x, t)), [[-3]], (x, t))

    def test_level(self):
        for z in HEIGHTS_WITHIN + HEIGHTS_OUTSIDE:
            self.assertEqual(ask(level(z)), [[-3]], z)

    def test_a_refusal_is_its_number_alone(self):
        calls = at(0, 0, 0) + near(0, 0) + bevel(0, 0) + inside(0, 0, 0) + frame(0, 0) + level(0)
        self.assertEqual(answers(calls), [1, -3] * 6)

    def test_behind_a_make_that_was_wrong(self):
        wrong = make([0, 1], [0, 0], [1, 2, 3, 4])
        told = ask(wrong, inside(0, 0, 0), frame(0, 0), level(0), inside(0, 0, -1), frame(0, -1), level(9))
        self.assertEqual(told[1:], [[-3]] * 6)


class WrongArgument(unittest.TestCase):
    def test_what_within_the_hull_and_without(self):
        for what in WRONG_WHATS:
            for x, z in WITHIN + OUTSIDE:
                self.assertEqual(ask_last(TABLE, at(x, z, what)), [-1], (x, z, what))

    def test_thickness_within_the_hull_and_without(self):
        for t in WRONG_THICKNESSES:
            for x, z in WITHIN + OUTSIDE:
                self.assertEqual(ask_last(TABLE, inside(x, z, t)), [-1], (x, z, t))
            for x in PLACES_WITHIN + PLACES_OUTSIDE:
                self.assertEqual(ask_last(TABLE, frame(x, t)), [-1], (x, t))

    def test_thicknesses_at_the_edge_are_good(self):
        for t in GOOD_THICKNESSES:
            self.assertEqual(ask_last(TABLE, inside(12, 3, t)), [0, 4 - t])
            self.assertEqual(ask_last(TABLE, frame(12, t)), [0] + [4 - t, 0] * 3)

    def test_a_refusal_is_its_number_alone(self):
        told = answers(TABLE + at(12, 3, 3) + inside(12, 3, -1) + frame(12, -1))
        self.assertEqual(told, [3, 0, 0, 0] + [1, -1] * 3)


class Outside(unittest.TestCase):
    def test_points_outside(self):
        for x, z in OUTSIDE:
            self.assertEqual(ask(TABLE, *calls_with_both(x, z))[1:], [[-4]] * 7, (x, z))

    def test_the_ends_and_what_lies_between_are_allowed(self):
        told = [[0, 4], [0, 0], [0, 4, 1], [0, 0, 1], [0, 0, 1], [0, 4], [0, 4 - LARGEST]]
        for x, z in WITHIN:
            self.assertEqual(ask(TABLE, *calls_with_both(x, z))[1:], told, (x, z))

    def test_frame_has_x_alone(self):
        for t in GOOD_THICKNESSES:
            for x in PLACES_OUTSIDE:
                self.assertEqual(ask_last(TABLE, frame(x, t)), [-4], (x, t))
            for x in PLACES_WITHIN:
                self.assertEqual(ask_last(TABLE, frame(x, t)), [0] + [4 - t, 0] * 3, (x, t))

    def test_level_has_z_alone(self):
        for z in HEIGHTS_OUTSIDE:
            self.assertEqual(ask_last(TABLE, level(z)), [-4], z)
        for z in HEIGHTS_WITHIN:
            self.assertEqual(ask_last(TABLE, level(z)), [0, 4, 4, 4], z)

    def test_a_refusal_is_its_number_alone(self):
        told = answers(TABLE + near(9, 0) + inside(9, 0, 0) + frame(9, 0) + level(-9))
        self.assertEqual(told, [3, 0, 0, 0] + [1, -4] * 4)

    def test_the_outermost_measures(self):
        table = make([0, LARGEST], [-LARGEST, LARGEST], [3] * 4)
        for x in (-1, 0, LARGEST, LARGEST + 1):
            along = 0 <= x <= LARGEST
            self.assertEqual(ask_last(table, frame(x, 1)), [0, 2, 0, 2, 0] if along else [-4], x)
            for z in (-LARGEST - 1, -LARGEST, LARGEST, LARGEST + 1):
                upward = -LARGEST <= z <= LARGEST
                self.assertEqual(ask_last(table, near(x, z)), [0, 3] if along and upward else [-4], (x, z))
                self.assertEqual(ask_last(table, inside(x, z, 1)), [0, 2] if along and upward else [-4], (x, z))
                self.assertEqual(ask_last(table, level(z)), [0, 3, 3] if upward else [-4], z)


class TheObjectStays(unittest.TestCase):
    def test_refusals_change_nothing(self):
        refused = (
            (at(10, 0, 7), [-1]), (at(9, 0, 0), [-4]), (near(9, 0), [-4]), (bevel(9, 0), [-4]),
            (inside(10, 0, -1), [-1]), (inside(9, 0, 1), [-4]), (frame(10, LARGEST + 1), [-1]), (frame(21, 1), [-4]),
            (level(6), [-4]),
        )
        stay = [near(10, 0), inside(11, 5, 3), frame(20, 2), level(-8)]
        told = [[0, 4], [0, 1], [0, 2, 0, 2, 0, 2, 0], [0, 4, 4, 4]]
        for call, number in refused:
            self.assertEqual(ask(TABLE, call, *stay), [[0, 0, 0], number] + told, call)

    def test_answers_change_nothing(self):
        table = make([0, 3, 9], [-4, 1, 6], [2, 30, 7, 0, 11, 50, 9, 9, 1])
        calls = [at(4, 2, 0), near(4, 2), bevel(4, 2), inside(4, 2, 5), frame(4, 5), level(2)]
        alone = [ask_last(table, call) for call in calls]
        self.assertEqual(ask(table, *calls, *reversed(calls), *calls)[1:], alone + alone[::-1] + alone)

    def test_a_table_behind_a_refusal(self):
        self.assertEqual(ask(near(10, 0), TABLE, near(10, 0)), [[-3], [0, 0, 0], [0, 4]])
        told = ask(frame(10, 1), level(0), TABLE, frame(10, 1), level(0))
        self.assertEqual(told, [[-3], [-3], [0, 0, 0], [0, 3, 0, 3, 0, 3, 0], [0, 4, 4, 4]])


if __name__ == "__main__":
    unittest.main()
