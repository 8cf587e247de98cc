"""Promises 3 and 4: near and bevel."""

import unittest

from reference import LARGEST, ReferenceHull, ask, ask_last, bevel, make, near, random_source, random_table


def straight(length, low, high):
    return make([0, length], [0, 1], [low, high, low, high])


def dip(base, end):
    """Half-breadths base, base, base + end at 0, 2, 4: at 1 the batten lies 3/32 of end below base."""
    return make([0, 2, 4], [0, 1], [base, base, base + end] * 2)


class Near(unittest.TestCase):
    def test_whole_numbers_stay(self):
        self.assertEqual(ask(straight(10, 0, 50), near(0, 0), near(3, 0), near(10, 1))[1:], [[0, 0], [0, 15], [0, 50]])

    def test_halfway_goes_to_the_even_one(self):
        for low, even in ((0, 0), (1, 2), (2, 2), (3, 4), (4, 4), (LARGEST - 1, LARGEST - 1)):
            self.assertEqual(ask_last(straight(2, low, low + 1), near(1, 0)), [0, even], low)

    def test_halfway_goes_to_the_even_one_below_zero(self):
        told = [ask_last(dip(base, 16), near(1, 0)) for base in range(4)]
        self.assertEqual(told, [[0, -2], [0, 0], [0, 0], [0, 2]])
        told = [ask_last(dip(base, 80), near(1, 0)) for base in range(9)]
        self.assertEqual(told, [[0, n] for n in (-8, -6, -6, -4, -4, -2, -2, 0, 0)])

    def test_beside_halfway_goes_to_the_nearer(self):
        for low in (0, 1):
            told = ask(straight(1000, low, low + 1), near(499, 0), near(501, 0))
            self.assertEqual(told[1:], [[0, low], [0, low + 1]])

    def test_beside_halfway_below_zero(self):
        # 3/32 of 15 and of 17 lie on either side of 3/2; 3/32 of 5 and of 6 on either side of 1/2.
        told = [ask_last(dip(0, end), near(1, 0)) for end in (5, 6, 15, 17, 26, 27)]
        self.assertEqual(told, [[0, n] for n in (0, -1, -1, -2, -2, -3)])

    def test_halfway_between_levels(self):
        self.assertEqual(ask_last(make([0, 1], [-1, 1], [4, 4, 5, 5]), near(0, 0)), [0, 4])
        self.assertEqual(ask_last(make([0, 1], [-1, 1], [5, 5, 6, 6]), near(0, 0)), [0, 6])


class Bevel(unittest.TestCase):
    def test_whole_numbers_stay(self):
        self.assertEqual(ask_last(straight(192, 0, 7), bevel(5, 0)), [0, 7])
        self.assertEqual(ask_last(straight(192, 7, 0), bevel(5, 0)), [0, -7])
        self.assertEqual(ask_last(straight(1, 0, 1), bevel(1, 1)), [0, 192])
        self.assertEqual(ask_last(straight(1, 3, 3), bevel(1, 1)), [0, 0])

    def test_halfway_goes_to_the_even_one(self):
        for rise, even in ((1, 0), (3, 2), (5, 2), (7, 4), (9, 4)):
            self.assertEqual(ask_last(straight(384, 0, rise), bevel(100, 0)), [0, even], rise)
            self.assertEqual(ask_last(straight(384, rise, 0), bevel(100, 0)), [0, -even], -rise)

    def test_beside_halfway_goes_to_the_nearer(self):
        for length, number in ((383, 1), (385, 0)):
            self.assertEqual(ask_last(straight(length, 0, 1), bevel(0, 0)), [0, number])
            self.assertEqual(ask_last(straight(length, 1, 0), bevel(0, 0)), [0, -number])

    def test_it_is_the_slope_along_not_the_slope_up(self):
        table = make([0, 192], [0, 192], [0, 5, 90, 95])
        self.assertEqual(ask_last(table, bevel(50, 50)), [0, 5])

    def test_between_levels(self):
        table = make([0, 192], [0, 4], [0, 0, 0, 10])
        self.assertEqual([ask_last(table, bevel(9, z)) for z in range(5)], [[0, n] for n in (0, 2, 5, 8, 10)])

    def test_a_bent_batten(self):
        # The slopes of the batten through (0, 0), (2, 1), (4, 0) are 3/4, 9/16, 0, -9/16, -3/4.
        table = make([0, 2, 4], [0, 1], [0, 1, 0] * 2)
        self.assertEqual([ask_last(table, bevel(x, 0)) for x in range(5)], [[0, n] for n in (144, 108, 0, -108, -144)])


class AgainstTheReference(unittest.TestCase):
    def test_random_tables(self):
        source = random_source(21)
        for stations, levels in ((2, 2), (3, 4), (5, 3), (8, 6)):
            table = random_table(source, stations, levels, 200, 90)
            hull = ReferenceHull(*table)
            for k in range(12):
                x, z = source.randint(table[0][0], table[0][-1]), source.randint(table[1][0], table[1][-1])
                told = ask(make(*table), near(x, z), bevel(x, z))[1:]
                # Python's round of a fraction goes to the even one halfway, too.
                asked = [[0, round(hull.tell(x, z, 0))], [0, round(192 * hull.tell(x, z, 1))]]
                self.assertEqual(told, asked, (table, x, z))


if __name__ == "__main__":
    unittest.main()
