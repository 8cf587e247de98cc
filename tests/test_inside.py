"""Promise 5: inside."""

import unittest
from fractions import Fraction
from math import isqrt

from reference import (LARGEST, ReferenceHull, ask, ask_last, inside, make, near, nearest_within, random_source,
                       random_table)


def plane(low, along, up, length=1, height=1):
    """A flat skin with the slopes along / length and up / height; low is its half-breadth at 0 and 0."""
    return make([0, length], [0, height], [low, low + along, low + up, low + along + up])


def within(table, x, z, t):
    told = ask_last(table, inside(x, z, t))
    assert len(told) == 2 and told[0] == 0, told
    return told[1]


class WithoutThickness(unittest.TestCase):
    def test_it_tells_what_near_tells(self):
        source = random_source(51)
        for stations, levels in ((2, 2), (3, 4), (9, 5), (24, 16)):
            places, heights, halves = random_table(source, stations, levels)
            points = [(x, z) for x in (places[0], places[-1], source.randint(places[0], places[-1]))
                      for z in (heights[0], heights[-1], source.randint(heights[0], heights[-1]))]
            told = ask(make(places, heights, halves), *[inside(x, z, 0) for x, z in points])
            self.assertEqual(told, ask(make(places, heights, halves), *[near(x, z) for x, z in points]))

    def test_halfway_goes_to_the_even_one(self):
        for low, even in ((0, 0), (1, 2), (2, 2), (3, 4), (LARGEST - 1, LARGEST - 1)):
            self.assertEqual(within(plane(low, 1, 0, length=2), 1, 0, 0), even)
        dips = [make([0, 2, 4], [0, 1], [base, base, base + 16] * 2) for base in range(4)]
        self.assertEqual([within(dip, 1, 0, 0) for dip in dips], [-2, 0, 0, 2])


class WithoutSlopes(unittest.TestCase):
    def test_the_thickness_just_so(self):
        for half in (0, 1, 16, 17, LARGEST):
            for t in (0, 1, 16, 17, LARGEST):
                self.assertEqual(within(plane(half, 0, 0), 0, 1, t), half - t, (half, t))

    def test_at_the_top_of_an_arch(self):
        table = make([0, 2, 4], [-2, 0, 2], [0, 1, 0, 1, 2, 1, 0, 1, 0])
        self.assertEqual([within(table, 2, 0, t) for t in (0, 1, 2, 16, LARGEST)], [2, 1, 0, -14, 2 - LARGEST])


class WholeRoots(unittest.TestCase):
    def test_both_slopes_count_whichever_way_they_go(self):
        # 1 + 4 + 4 is 9.
        for along, up in ((2, 2), (-2, 2), (2, -2), (-2, -2)):
            for t in (0, 1, 16, LARGEST):
                self.assertEqual(within(plane(50, along, up), 0, 0, t), 50 - 3 * t, (along, up, t))

    def test_slopes_that_differ(self):
        # 1 + 16 + 64 is 81; 1 + 4 + 4 the whole way across.
        self.assertEqual(within(plane(100, 4, 8), 0, 0, 7), 100 - 63)
        self.assertEqual(within(plane(100, 8, 4), 1, 1, 7), 112 - 63)
        self.assertEqual(within(plane(0, 20, 20, 10, 10), 3, 4, 16), 14 - 48)

    def test_the_steepest(self):
        # With n along and as much up, 1 + 2 n n is a square for n = 470832 and the root 665857.
        self.assertEqual(665857 ** 2, 1 + 2 * 470832 ** 2)
        table = plane(5, 470832, 470832)
        for t in (1, 16, LARGEST):
            self.assertEqual(within(table, 0, 0, t), 5 - 665857 * t)
            self.assertEqual(within(table, 1, 1, t), 5 + 2 * 470832 - 665857 * t)


class RootsThatAreQuotients(unittest.TestCase):
    def test_whole_differences(self):
        for along, up, length, height in ((3, 0, 4, 1), (0, 3, 1, 4), (-3, 0, 4, 1), (0, -3, 1, 4)):
            self.assertEqual(within(plane(20, along, up, length, height), 0, 0, 4), 15)

    def test_halfway_goes_to_the_even_one_above_and_below_zero(self):
        evens = {0: -2, 1: -2, 2: 0, 3: 0, 4: 2, 5: 2, 6: 4, 7: 4, LARGEST - 3: LARGEST - 5, LARGEST - 4: LARGEST - 7}
        for low, even in evens.items():
            # A slope of 3/4 makes the root 5/4, and 2 of it 5/2.
            for along, up, length, height in ((3, 0, 4, 1), (0, 3, 1, 4)):
                self.assertEqual(within(plane(low, along, up, length, height), 0, 0, 2), even, low)

    def test_halfway_by_both_slopes(self):
        # 1 + 1/4 + 1 is 9/4; 1 + 9/4 + 9 is 49/4.
        for low, even in ((0, -2), (1, 0), (2, 0), (3, 2), (4, 2)):
            self.assertEqual(within(plane(low, 1, 1, length=2), 0, 0, 1), even, low)
            self.assertEqual(within(plane(low, 1, 1, height=2), 0, 0, 1), even, low)
        for low, even in ((0, -4), (1, -2), (2, -2), (3, 0), (4, 0), (5, 2)):
            self.assertEqual(within(plane(low, 3, 3, length=2), 0, 0, 1), even, low)

    def test_halfway_with_the_largest_thickness(self):
        # 3/2 of 1048575 is 1572862 and a half.
        for low, even in ((0, -1572862), (1, -1572862), (2, -1572860), (3, -1572860)):
            self.assertEqual(within(plane(low, 1, 1, length=2), 0, 0, LARGEST), even, low)

    def test_beside_halfway_goes_to_the_nearer(self):
        # 5/4 of 1 and of 3, with whole half-breadths and with quarters.
        table = plane(4, 3, 0, length=4)
        self.assertEqual([within(table, 0, 0, t) for t in (1, 3, 5)], [3, 0, -2])
        # 4 3/4, 5 1/2, 6 1/4 and 7 less 1 1/4.
        self.assertEqual([within(table, x, 0, 1) for x in (1, 2, 3, 4)], [4, 4, 5, 6])

    def test_half_breadth_and_root_are_halfway_together(self):
        # At 1 the half-breadth is 3/4 above low, less 5/4.
        for low, even in ((0, 0), (1, 0), (2, 2), (3, 2), (4, 4)):
            self.assertEqual(within(plane(low, 3, 0, length=4), 1, 0, 1), even, low)

    def test_nothing_is_rounded_before(self):
        # Half-breadth and slope are 1/2, the root 1.118: -0.618 and -5.09, where -0.5, -5.5 or -5.59 are wrong.
        table = make([0, 1], [0, 2], [0, 0, 1, 1])
        self.assertEqual([within(table, 0, 1, t) for t in (1, 5)], [-1, -5])
        # With a slope of 1/1000 a million roots are half a one more than a million.
        table = plane(0, 1, 0, length=1000)
        self.assertEqual([within(table, 0, 0, t) for t in (999999, 1000002)], [-999999, -1000003])

    def test_bent_battens(self):
        # The arch has the slopes 3/4, 9/16, 0, -9/16, -3/4, its root 5/4 at both ends.
        lying = make([0, 2, 4], [0, 1], [0, 1, 0] * 2)
        standing = make([0, 1], [0, 2, 4], [0, 0, 1, 1, 0, 0])
        for t, ends in ((1, -1), (2, -2), (4, -5), (6, -8), (16, -20)):
            self.assertEqual([within(lying, x, 0, t) for x in (0, 4)], [ends] * 2, t)
            self.assertEqual([within(standing, 1, z, t) for z in (0, 4)], [ends] * 2, t)
        # 11/16 less 16 roots of 1 + 81/256: the root of 337 is 18.357.
        self.assertEqual([within(lying, x, 1, 16) for x in (1, 3)], [-18, -18])

    def test_random_planes(self):
        source = random_source(52)
        quadruples = [(1, 2, 2, 3), (2, 3, 6, 7), (4, 4, 7, 9), (1, 4, 8, 9), (2, 6, 9, 11), (2, 5, 14, 15)]
        for k in range(200):
            sides = source.choice(quadruples)
            ones = list(sides[:3])
            source.shuffle(ones)
            length, along, up = ones
            low, t = source.randint(0, 40), source.randint(0, 40)
            x, z = source.randint(0, length), source.randint(0, length)
            half = Fraction(low * length + along * x + up * z, length)
            asked = round(half - t * Fraction(sides[3], length))
            self.assertEqual(within(plane(low, along, up, length, length), x, z, t), asked, (low, ones, x, z, t))


class VeryNearToHalfway(unittest.TestCase):
    def test_a_trillionth_above_halfway(self):
        # n times the root of 1 + n n is a little less than n n + 1/2: by about 1 / (8 n n).
        for n in (1, 2, 1000, LARGEST - 1, LARGEST):
            for low in {0, LARGEST - n}:
                self.assertEqual(within(plane(low, n, 0), 0, 0, n), low - n * n, (low, n))
                self.assertEqual(within(plane(low, 0, n), 0, 0, n), low - n * n, (low, n))

    def test_a_millionth_below_halfway(self):
        # One thickness more: n n + n + 1/2 and about 1 / (2 n).
        for n in (1000, LARGEST - 2, LARGEST - 1):
            for low in (0, 1):
                self.assertEqual(within(plane(low, n, 0), 0, 0, n + 1), low - n * n - n - 1, (low, n))
                self.assertEqual(within(plane(low, 0, n), 0, 0, n + 1), low - n * n - n - 1, (low, n))

    def test_both_slopes(self):
        # With m m along and m up the root is a little more than m m + 1/2.
        for m in (3, 100, 1000, 1023):
            for low in (0, 1):
                self.assertEqual(within(plane(low, m * m, m), 0, 0, 1), low - m * m - 1, (low, m))
        # 1 + 1 + 1: 4 * 3 * 75658 * 75658 is 262087 * 262087 - 1.
        for low in (0, 1, 2):
            self.assertEqual(within(plane(low, 1, 1), 0, 0, 75658), low - 131043)

    def thickness_near_halfway(self, half, along, up):
        """The thickness with the difference least above a halfway point, and that with the one least below."""
        fine = 1 << 120
        square = (1 + along ** 2 + up ** 2) * fine ** 2
        root = isqrt(square.numerator // square.denominator)
        start = (half * fine).numerator // (half * fine).denominator - fine // 2
        above = min(range(LARGEST + 1), key=lambda t: (start - t * root) % fine)
        below = min(range(LARGEST + 1), key=lambda t: (t * root - start) % fine)
        return above, below

    def test_many_stations_and_levels(self):
        source = random_source(53)
        for steep in (False, True):
            if steep:
                places = [1000 + k for k in range(24)]
                heights = [k - 8 for k in range(16)]
                halves = [LARGEST * ((k + n + k * n // 5) % 2) for n in range(16) for k in range(24)]
                x, z = 1011, -3
            else:
                places, heights, halves = random_table(source, 24, 16)
                x, z = source.randint(places[0], places[-1]), source.randint(heights[0], heights[-1])
            hull = ReferenceHull(places, heights, halves)
            told = [hull.tell(x, z, what) for what in range(3)]
            above, below = self.thickness_near_halfway(*told)
            for t in (above, below, 0, 1, 16, LARGEST - 1, LARGEST):
                self.assertEqual(within(make(places, heights, halves), x, z, t), nearest_within(*told, t), (x, z, t))


class AgainstTheReference(unittest.TestCase):
    def test_every_point_of_a_small_table(self):
        table = ([1, 2, 5, 9], [-3, -1, 4], [0, 4, 7, 1, 2, 6, 6, 0, 3, 3, 9, 5])
        points = [(x, z) for x in range(1, 10) for z in range(-3, 5)]
        for turned in (False, True):
            hull = ReferenceHull(*table, turned)
            for t in (1, 16, LARGEST):
                told = ask(make(*table), *[inside(x, z, t) for x, z in points])[1:]
                self.assertEqual(told, [[0, hull.inside(x, z, t)] for x, z in points], t)

    def check_sizes(self, seed, largest, most_half, most_thickness):
        source = random_source(seed)
        for stations, levels in ((2, 2), (2, 5), (6, 2), (3, 3), (7, 4), (9, 9)):
            places, heights, halves = random_table(source, stations, levels, largest, most_half)
            hull = ReferenceHull(places, heights, halves, source.randint(0, 1) == 1)
            xs = [places[0], places[-1], source.choice(places), source.randint(places[0], places[-1])]
            zs = [heights[0], heights[-1], source.choice(heights), source.randint(heights[0], heights[-1])]
            calls = [inside(x, z, source.randint(0, most_thickness)) for x in xs for z in zs]
            for call, answer in zip(calls, ask(make(places, heights, halves), *calls)[1:]):
                self.assertEqual(answer, [0, hull.inside(*call[1:])], (places, heights, halves, call))

    def test_small_tables(self):
        self.check_sizes(54, 30, 20, 16)

    def test_large_measures(self):
        self.check_sizes(55, LARGEST, LARGEST, LARGEST)

    def test_steep_skins(self):
        self.check_sizes(56, 30, LARGEST, LARGEST)


if __name__ == "__main__":
    unittest.main()
