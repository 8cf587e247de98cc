"""Promise 6: frame."""

import unittest

from boathull.floor import answers
from reference import LARGEST, ReferenceHull, ask, ask_last, bevel, frame, inside, make, random_source, random_table

# Slopes along of 4/3 below and -4/3 above, no slope up at x = 3: the roots at 3 are 5/3.
CROSSED = make([0, 6], [0, 5], [10, 18, 18, 10])


class ByHand(unittest.TestCase):
    def test_half_breadth_within_planks_then_bevel_from_the_lowest_level(self):
        self.assertEqual(ask_last(CROSSED, frame(3, 0)), [0, 14, 256, 14, -256])
        self.assertEqual(ask_last(CROSSED, frame(3, 3)), [0, 9, 256, 9, -256])
        self.assertEqual(ask_last(CROSSED, frame(3, 1)), [0, 12, 256, 12, -256])

    def test_the_count_stands_before_the_whole_answer_alone(self):
        self.assertEqual(answers(CROSSED + frame(3, 3)), [3, 0, 0, 0, 5, 0, 9, 256, 9, -256])

    def test_slopes_up_count_too(self):
        table = make([0, 1], [0, 1, 3], [10, 12, 12, 14, 16, 18])
        self.assertEqual(ask_last(table, frame(0, 2)), [0, 4, 384, 6, 384, 10, 384])
        self.assertEqual(ask_last(table, frame(1, 2)), [0, 6, 384, 8, 384, 12, 384])

    def test_halfway_goes_to_the_even_one(self):
        # Slopes along of 3/4: a thickness of 2 takes 5/2 away; bevels of 144.
        table = make([0, 4], [0, 1], [0, 3, 0, 3])
        self.assertEqual(ask_last(table, frame(0, 2)), [0, -2, 144, -2, 144])
        self.assertEqual(ask_last(table, frame(4, 2)), [0, 0, 144, 0, 144])
        # A slope of 3/384 is a bevel of 3/2.
        table = make([0, 384], [0, 1], [5, 8, 5, 8])
        self.assertEqual(ask_last(table, frame(0, 0)), [0, 5, 2, 5, 2])

    def test_a_level_skin(self):
        for t in (0, 1, 16, LARGEST):
            table = make([0, 5, 7], [-2, 1, 9], [4] * 3 + [50] * 3 + [LARGEST] * 3)
            told = ask_last(table, frame(6, t))
            self.assertEqual(told[2::2], [0, 0, 0], t)
            self.assertEqual(told, ask_last(table, frame(0, t)))


class AsInsideAndBevel(unittest.TestCase):
    def check(self, table, x, t):
        heights = table[1]
        told = ask(make(*table), *[call for z in heights for call in (inside(x, z, t), bevel(x, z))])[1:]
        self.assertEqual([part[0] for part in told], [0] * (2 * len(heights)))
        self.assertEqual(ask_last(make(*table), frame(x, t)), [0] + [part[1] for part in told], (table, x, t))

    def test_each_level_of_tables_of_all_sizes(self):
        source = random_source(61)
        for stations, levels in ((2, 2), (24, 2), (2, 16), (3, 3), (5, 9), (24, 16)):
            for largest, most_half in ((60, 40), (60, LARGEST), (LARGEST, LARGEST)):
                table = random_table(source, stations, levels, largest, most_half)
                places = table[0]
                for x in (places[0], places[-1], source.choice(places), source.randint(places[0], places[-1])):
                    for t in (0, 1, 16, LARGEST):
                        self.check(table, x, t)

    def test_against_the_reference(self):
        source = random_source(62)
        for stations, levels, turned in ((2, 2, True), (4, 3, False), (3, 6, True)):
            table = random_table(source, stations, levels, 100, 300)
            hull = ReferenceHull(*table, turned)
            for x in (table[0][0], table[0][-1], source.randint(table[0][0], table[0][-1])):
                for t in (0, 1, 16, LARGEST):
                    self.assertEqual(ask_last(make(*table), frame(x, t)), [0] + hull.frame(x, t), (table, x, t))


if __name__ == "__main__":
    unittest.main()
