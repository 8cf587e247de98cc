"""Promise 7: level."""

import unittest

from boathull.floor import answers
from reference import LARGEST, ReferenceHull, ask, ask_last, level, make, near, random_source, random_table


class ByHand(unittest.TestCase):
    def test_one_number_for_each_station_in_their_order(self):
        table = make([0, 10, 30], [0, 4], [10, 20, 33, 50, 0, 1])
        self.assertEqual(ask_last(table, level(0)), [0, 10, 20, 33])
        self.assertEqual(ask_last(table, level(1)), [0, 20, 15, 25])
        self.assertEqual(ask_last(table, level(2)), [0, 30, 10, 17])
        self.assertEqual(ask_last(table, level(4)), [0, 50, 0, 1])

    def test_the_count_stands_before_the_whole_answer_alone(self):
        table = make([0, 10, 30], [0, 4], [10, 20, 33, 50, 0, 1])
        self.assertEqual(answers(table + level(1)), [3, 0, 0, 0, 4, 0, 20, 15, 25])

    def test_halfway_goes_to_the_even_one(self):
        halves = [0, 1, 2, 3, 4, LARGEST - 2, LARGEST - 1]
        table = make([0, 1, 2, 3, 4, 5, 6], [-1, 1], halves + [half + 1 for half in halves])
        self.assertEqual(ask_last(table, level(0)), [0, 0, 2, 2, 4, 4, LARGEST - 1, LARGEST - 1])

    def test_halfway_below_zero(self):
        # Up through base, base, base + 16 at 0, 2, 4 the batten lies 3/2 below base at 1.
        table = make([0, 1, 2, 3], [0, 2, 4], [0, 1, 2, 3, 0, 1, 2, 3, 16, 17, 18, 19])
        self.assertEqual(ask_last(table, level(1)), [0, -2, 0, 0, 2])

    def test_beside_halfway_goes_to_the_nearer(self):
        table = make([0, 1], [0, 1000], [0, 1, 1, 2])
        self.assertEqual(ask(table, level(499), level(501))[1:], [[0, 0, 1], [0, 1, 2]])

    def test_bent_battens_up(self):
        # 11/16 of the arch at 1 and at 3.
        table = make([0, 1], [-2, 0, 2], [0, 0, 1, 16, 0, 0])
        self.assertEqual([ask_last(table, level(z)) for z in range(-2, 3)],
                         [[0, 0, 0], [0, 1, 11], [0, 1, 16], [0, 1, 11], [0, 0, 0]])


class AsNear(unittest.TestCase):
    def test_each_station_of_tables_of_all_sizes(self):
        source = random_source(71)
        for stations, levels in ((2, 2), (24, 2), (2, 16), (3, 3), (9, 5), (24, 16)):
            for largest, most_half in ((60, 40), (60, LARGEST), (LARGEST, LARGEST)):
                places, heights, halves = random_table(source, stations, levels, largest, most_half)
                inner = [source.randint(heights[0], heights[-1]) for k in range(4)]
                for z in [heights[0], heights[-1], source.choice(heights)] + inner:
                    told = ask(make(places, heights, halves), *[near(x, z) for x in places])[1:]
                    self.assertEqual([part[0] for part in told], [0] * stations)
                    asked = [0] + [part[1] for part in told]
                    self.assertEqual(ask_last(make(places, heights, halves), level(z)), asked)

    def test_at_the_levels_the_table_itself(self):
        places, heights, halves = random_table(random_source(72), 24, 16)
        told = ask(make(places, heights, halves), *[level(z) for z in heights])[1:]
        self.assertEqual(told, [[0] + halves[k:k + 24] for k in range(0, 384, 24)])

    def test_against_the_reference(self):
        source = random_source(73)
        for stations, levels, turned in ((2, 2, True), (4, 3, False), (3, 6, True)):
            table = random_table(source, stations, levels, 100, 300)
            hull = ReferenceHull(*table, turned)
            for z in (table[1][0], table[1][-1], source.randint(table[1][0], table[1][-1])):
                self.assertEqual(ask_last(make(*table), level(z)), [0] + hull.level(z), (table, z))


if __name__ == "__main__":
    unittest.main()
