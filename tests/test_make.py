"""Promise 1: make."""

import unittest

from boathull.floor import answers
from reference import FAR, LARGEST, ask, ask_last, at, make, near

GOOD = [0, 0, 0]


def places_of(count):
    return list(range(0, 3 * count, 3))


def flat(count_places, count_heights, half=5):
    return make(places_of(count_places), places_of(count_heights), [half] * (count_places * count_heights))


class GoodTables(unittest.TestCase):
    def test_a_good_table(self):
        self.assertEqual(ask(make([0, 10], [-3, 4], [1, 2, 3, 4])), [GOOD])

    def test_the_answer_has_its_count_before_it(self):
        self.assertEqual(answers(make([0, 10], [-3, 4], [1, 2, 3, 4])), [3, 0, 0, 0])

    def test_fewest_and_most(self):
        for stations in (2, 3, 23, 24):
            for levels in (2, 3, 15, 16):
                self.assertEqual(ask(flat(stations, levels)), [GOOD], (stations, levels))

    def test_a_first_place_above_zero(self):
        self.assertEqual(ask(make([7, 8], [0, 1], [0, 0, 0, 0])), [GOOD])

    def test_the_outermost_measures(self):
        call = make([0, LARGEST], [-LARGEST, LARGEST], [0, LARGEST, LARGEST, 0])
        self.assertEqual(ask(call), [GOOD])

    def test_half_breadths_stand_level_by_level_and_in_a_level_station_by_station(self):
        table = make([0, 10, 20], [0, 6], [1, 2, 3, 4, 5, 6])
        told = ask(table, *[near(x, z) for z in (0, 6) for x in (0, 10, 20)])
        self.assertEqual(told[1:], [[0, 1], [0, 2], [0, 3], [0, 4], [0, 5], [0, 6]])


class Counts(unittest.TestCase):
    def test_stations(self):
        for count in (0, 1, 25, 26, 40):
            self.assertEqual(ask(flat(count, 2)), [[0, 2, 0]], count)

    def test_levels(self):
        for count in (0, 1, 17, 18, 30):
            self.assertEqual(ask(flat(2, count)), [[0, 2, 1]], count)

    def test_half_breadths(self):
        for count in (0, 1, 5, 7, 12, 600):
            self.assertEqual(ask(make([0, 1, 2], [0, 1], [0] * count)), [[0, 1, count]], count)

    def test_half_breadths_of_the_largest_table(self):
        for count in (383, 385, 600):
            call = make(places_of(24), places_of(16), [0] * count)
            self.assertEqual(ask(call), [[0, 1, count]], count)

    def test_a_call_behind_rows_that_are_empty(self):
        self.assertEqual(ask(make([], [], []), flat(2, 2)), [[0, 2, 0], GOOD])


class Numbers(unittest.TestCase):
    def test_places_that_are_no_measure_from_zero_on(self):
        for place in (-FAR - 1, -LARGEST - 1, -LARGEST, -1):
            self.assertEqual(ask(make([place, 5], [0, 1], [0] * 4)), [[0, 3, 0]], place)
        for place in (LARGEST + 1, LARGEST + 2, FAR):
            self.assertEqual(ask(make([5, place], [0, 1], [0] * 4)), [[0, 3, 1]], place)
        self.assertEqual(ask(make([FAR, 5], [0, 1], [0] * 4)), [[0, 3, 0]])
        self.assertEqual(ask(make([5, -FAR - 1], [0, 1], [0] * 4)), [[0, 3, 1]])

    def test_places_at_the_edge_are_good(self):
        for places in ([0, 1], [LARGEST - 1, LARGEST], [0, LARGEST]):
            self.assertEqual(ask(make(places, [0, 1], [0] * 4)), [GOOD], places)

    def test_places_that_do_not_rise(self):
        for places, number in (([4, 4, 9], 1), ([4, 3, 9], 1), ([4, 9, 9], 2), ([4, 9, 8], 2), ([4, 9, 4], 2)):
            self.assertEqual(ask(make(places, [0, 1], [0] * 6)), [[0, 3, number]], places)

    def test_the_first_wrong_place_is_told(self):
        self.assertEqual(ask(make([4, 4, -1], [0, 1], [0] * 6)), [[0, 3, 1]])
        self.assertEqual(ask(make([4, LARGEST + 1, 4], [0, 1], [0] * 6)), [[0, 3, 1]])
        self.assertEqual(ask(make([-1, 4, 4], [0, 1], [0] * 6)), [[0, 3, 0]])

    def test_heights_that_are_no_measure(self):
        for height in (-FAR - 1, -LARGEST - 2, -LARGEST - 1):
            self.assertEqual(ask(make([0, 1], [height, 5], [0] * 4)), [[0, 4, 0]], height)
        for height in (LARGEST + 1, LARGEST + 2, FAR):
            self.assertEqual(ask(make([0, 1], [5, height], [0] * 4)), [[0, 4, 1]], height)

    def test_heights_below_zero_are_good(self):
        for heights in ([-LARGEST, -LARGEST + 1], [-1, 0], [-2, -1], [0, 1], [LARGEST - 1, LARGEST]):
            self.assertEqual(ask(make([0, 1], heights, [0] * 4)), [GOOD], heights)

    def test_heights_that_do_not_rise(self):
        for heights, number in (([-4, -4, 9], 1), ([-4, -5, 9], 1), ([4, 9, 9], 2), ([4, 9, 8], 2), ([0, 9, -1], 2)):
            self.assertEqual(ask(make([0, 1], heights, [0] * 6)), [[0, 4, number]], heights)

    def test_half_breadths_that_are_no_measure_from_zero_on(self):
        for half in (-FAR - 1, -LARGEST - 1, -LARGEST, -1, LARGEST + 1, FAR):
            for number in range(6):
                halves = [9, 9, 0, 3, 3, 1]
                halves[number] = half
                self.assertEqual(ask(make([0, 1, 2], [0, 1], halves)), [[0, 5, number]], (half, number))

    def test_half_breadths_at_the_edge_may_stand_in_any_order(self):
        self.assertEqual(ask(make([0, 1], [0, 1], [LARGEST, 0, LARGEST, 0])), [GOOD])
        self.assertEqual(ask(make([0, 1], [0, 1], [0, 0, 1, LARGEST])), [GOOD])

    def test_the_first_wrong_half_breadth_is_told(self):
        self.assertEqual(ask(make([0, 1], [0, 1], [0, LARGEST + 1, -1, -1])), [[0, 5, 1]])


class Order(unittest.TestCase):
    """Each call has all that is wrong from its own kind on."""

    def test_stations_before_levels(self):
        self.assertEqual(ask(make([-1], [9], [-1])), [[0, 2, 0]])

    def test_levels_before_the_count_of_half_breadths(self):
        self.assertEqual(ask(make([-1, -1], [LARGEST + 1], [-1])), [[0, 2, 1]])

    def test_the_count_of_half_breadths_before_places(self):
        self.assertEqual(ask(make([-1, -1], [3, 3], [-1])), [[0, 1, 1]])

    def test_places_before_heights(self):
        self.assertEqual(ask(make([3, 3], [LARGEST + 1, 3], [-1, 0, 0, 0])), [[0, 3, 1]])

    def test_heights_before_half_breadths(self):
        self.assertEqual(ask(make([3, 4], [3, 3], [-1, 0, 0, 0])), [[0, 4, 1]])


WRONG = (
    (make([0], [0, 1], [1, 2]), [0, 2, 0]),
    (make([0, 1], [0], [1, 2]), [0, 2, 1]),
    (make([0, 1], [0, 1], [1, 2, 3]), [0, 1, 3]),
    (make([0, 0], [0, 1], [1, 2, 3, 4]), [0, 3, 1]),
    (make([0, 1], [0, 0], [1, 2, 3, 4]), [0, 4, 1]),
    (make([0, 1], [0, 1], [1, 2, 3, -4]), [0, 5, 3]),
)


class WhatIsKept(unittest.TestCase):
    def test_a_wrong_make_leaves_no_table_where_there_was_none(self):
        for call, told in WRONG:
            self.assertEqual(ask(call, near(0, 0)), [told, [-3]])

    def test_a_wrong_make_leaves_the_table_that_was_there(self):
        first = make([0, 40], [0, 40], [100, 200, 300, 400])
        for call, told in WRONG:
            self.assertEqual(ask(first, call, at(10, 20, 0)), [GOOD, told, [0, 225, 1]])

    def test_a_good_make_puts_its_table_in_the_place_of_the_first(self):
        first = make([0, 40], [0, 40], [100, 200, 300, 400])
        second = make([10, 20, 30], [-5, 5], [7, 7, 7, 7, 7, 7])
        told = ask(first, near(0, 0), second, near(10, -5), near(0, 0), near(30, 6), first, near(40, 40))
        self.assertEqual(told, [GOOD, [0, 100], GOOD, [0, 7], [-4], [-4], GOOD, [0, 400]])

    def test_a_good_make_behind_a_wrong_one(self):
        self.assertEqual(ask_last(WRONG[0][0], flat(2, 2, 9), near(0, 0)), [0, 9])


if __name__ == "__main__":
    unittest.main()
