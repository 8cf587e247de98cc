"""Promise 2: at, and with it what the document says of battens and the hull."""

import unittest
from math import gcd

from reference import LARGEST, ReferenceHull, as_answer, ask, ask_last, at, make, random_source, random_table

# Along: nails (0, 0), (2, 1), (4, 0) have the bend -3/4 in the middle; the upper level is 2 more throughout.
ARCH = make([0, 2, 4], [0, 10], [0, 1, 0, 2, 3, 2])
# The same arch, standing: three levels, two stations.
STANDING = make([0, 10], [-2, 0, 2], [0, 2, 1, 3, 0, 2])


class ByHand(unittest.TestCase):
    def test_half_breadths_of_the_arch(self):
        for x, quotient in ((0, [0, 1]), (1, [11, 16]), (2, [1, 1]), (3, [11, 16]), (4, [0, 1])):
            self.assertEqual(ask_last(ARCH, at(x, 0, 0)), [0] + quotient, x)

    def test_half_breadths_between_the_levels(self):
        self.assertEqual(ask_last(ARCH, at(1, 10, 0)), [0, 43, 16])
        self.assertEqual(ask_last(ARCH, at(1, 5, 0)), [0, 27, 16])
        self.assertEqual(ask_last(ARCH, at(4, 1, 0)), [0, 1, 5])

    def test_slopes_along_the_arch(self):
        for x, quotient in ((0, [3, 4]), (1, [9, 16]), (2, [0, 1]), (3, [-9, 16]), (4, [-3, 4])):
            self.assertEqual(ask_last(ARCH, at(x, 0, 1)), [0] + quotient, x)
            self.assertEqual(ask_last(ARCH, at(x, 7, 1)), [0] + quotient, x)

    def test_slopes_up_the_arch(self):
        for x in range(5):
            for z in (0, 3, 10):
                self.assertEqual(ask_last(ARCH, at(x, z, 2)), [0, 1, 5])

    def test_the_standing_arch(self):
        for z, half, slope in ((-2, [0, 1], [3, 4]), (-1, [11, 16], [9, 16]), (0, [1, 1], [0, 1]),
                               (1, [11, 16], [-9, 16]), (2, [0, 1], [-3, 4])):
            self.assertEqual(ask_last(STANDING, at(0, z, 0)), [0] + half, z)
            self.assertEqual(ask_last(STANDING, at(5, z, 2)), [0] + slope, z)
            self.assertEqual(ask_last(STANDING, at(5, z, 1)), [0, 1, 5], z)

    def test_a_half_breadth_below_zero(self):
        # Nails (0, 0), (2, 0), (4, 32): the batten dips by 3 at 1.
        table = make([0, 2, 4], [0, 1], [0, 0, 32, 0, 0, 32])
        self.assertEqual(ask_last(table, at(1, 0, 0)), [0, -3, 1])
        self.assertEqual(ask_last(table, at(0, 1, 1)), [0, -4, 1])

    def test_four_nails(self):
        # (0, 0), (2, 0), (4, 6), (6, 0): the inner bends a, b have 8a + 2b = 18 and 2a + 8b = -36: 18/5 and -27/5.
        table = make([0, 2, 4, 6], [0, 1], [0, 0, 6, 0] * 2)
        self.assertEqual(ask_last(table, at(1, 0, 0)), [0, -9, 10])
        self.assertEqual(ask_last(table, at(3, 0, 0)), [0, 69, 20])
        self.assertEqual(ask_last(table, at(5, 0, 0)), [0, 87, 20])


class Straight(unittest.TestCase):
    def test_two_stations_and_two_levels(self):
        table = make([10, 13], [-7, 0], [1, 2, 30, 50])
        for x in range(10, 14):
            for z in range(-7, 1):
                u, v = x - 10, z + 7
                low, high = 3 * 1 + u, 30 * 3 + 20 * u
                over = {0: low * 7 + (high - low) * v, 1: 7 + 19 * v, 2: high - low}
                for what in range(3):
                    shared = gcd(over[what], 21)
                    self.assertEqual(ask_last(table, at(x, z, what)), [0, over[what] // shared, 21 // shared])

    def test_nails_in_one_row_are_not_bent(self):
        places = [0, 1, 5, 6, 20]
        heights = [-9, 0, 2, 30]
        table = make(places, heights, [100 + 3 * x + 2 * z for z in heights for x in places])
        for x, z in ((0, -9), (3, 1), (5, 2), (19, 29), (20, 30)):
            told = ask(table, at(x, z, 0), at(x, z, 1), at(x, z, 2))
            self.assertEqual(told[1:], [[0, 100 + 3 * x + 2 * z, 1], [0, 3, 1], [0, 2, 1]])


class Quotients(unittest.TestCase):
    def test_nothing_is_told_as_zero_and_one(self):
        table = make([0, 7, 9], [-5, 0, 3], [0] * 9)
        for what in range(3):
            for x, z in ((0, -5), (4, -2), (9, 3)):
                self.assertEqual(ask_last(table, at(x, z, what)), [0, 0, 1])

    def test_a_slope_that_falls(self):
        table = make([0, 6], [0, 4], [10, 7, 4, 1])
        self.assertEqual(ask(table, at(1, 1, 1), at(1, 1, 2))[1:], [[0, -1, 2], [0, -3, 2]])

    def test_lowest_terms(self):
        source = random_source(3)
        for k in range(20):
            places, heights, halves = random_table(source, 4, 3, 60, 60)
            for what in range(3):
                x, z = source.randint(places[0], places[-1]), source.randint(heights[0], heights[-1])
                told = ask_last(make(places, heights, halves), at(x, z, what))
                self.assertEqual((told[0], gcd(told[1], told[2])), (0, 1))
                self.assertGreater(told[2], 0)


def edges_and_between(source, numbers):
    inner = [source.randint(numbers[0], numbers[-1]) for k in range(2)]
    return sorted(set([numbers[0], numbers[-1], source.choice(numbers)] + inner))


class AgainstTheReference(unittest.TestCase):
    def check(self, table, turned, points):
        places, heights, halves = table
        hull = ReferenceHull(places, heights, halves, turned)
        calls = [at(x, z, what) for x, z in points for what in range(3)]
        told = ask(make(places, heights, halves), *calls)[1:]
        for call, answer in zip(calls, told):
            self.assertEqual(answer, as_answer(hull.tell(*call[1:])), (table, call))

    def check_sizes(self, seed, largest, most_half):
        source = random_source(seed)
        for stations, levels in ((2, 2), (2, 3), (3, 2), (3, 3), (2, 7), (6, 2), (4, 5), (7, 4), (9, 9)):
            table = random_table(source, stations, levels, largest, most_half)
            points = [(x, z) for x in edges_and_between(source, table[0]) for z in edges_and_between(source, table[1])]
            self.check(table, False, source.sample(points, min(8, len(points))))
            self.check(table, True, source.sample(points, min(8, len(points))))

    def test_small_tables_both_ways(self):
        self.check_sizes(11, 30, 20)

    def test_large_measures_both_ways(self):
        self.check_sizes(12, LARGEST, LARGEST)

    def test_every_point_of_a_small_table(self):
        table = ([1, 2, 5, 9], [-3, -1, 4], [0, 4, 7, 1, 2, 6, 6, 0, 3, 3, 9, 5])
        points = [(x, z) for x in range(1, 10) for z in range(-3, 5)]
        self.check(table, False, points)
        self.check(table, True, points)

    def test_at_each_nail_the_half_breadth_of_the_table(self):
        places, heights, halves = random_table(random_source(5), 24, 16)
        calls = [at(x, z, 0) for z in heights for x in places][:299]
        told = ask(make(places, heights, halves), *calls)[1:]
        self.assertEqual(told, [[0, half, 1] for half in halves[:299]])
        calls = [at(x, z, 0) for z in heights for x in places][299:]
        told = ask(make(places, heights, halves), *calls)[1:]
        self.assertEqual(told, [[0, half, 1] for half in halves[299:]])


if __name__ == "__main__":
    unittest.main()
