"""The interface: boathull.floor.answers."""

import contextlib
import io
import time
import unittest

from boathull.floor import answers
from reference import (LARGEST, ReferenceHull, as_answer, ask, at, bevel, frame, inside, level, make, near,
                       random_source, random_table)


class Untouchable(list):
    """A list that can be read and not changed, not for a while either."""

    def refuse(self, *given):
        raise AssertionError("what is handed in was changed")

    __setitem__ = __delitem__ = __iadd__ = __imul__ = refuse
    append = extend = insert = pop = remove = clear = sort = reverse = refuse


SEVERAL = (
    near(0, 0) + frame(0, 0) + level(0)
    + make([0, 2, 4], [0, 10], [0, 1, 0, 2, 3, 2])
    + at(1, 5, 0) + at(1, 5, 1) + at(1, 5, 2) + at(1, 5, 3)
    + near(1, 5) + bevel(1, 5) + near(5, 5)
    + inside(2, 5, 0) + inside(2, 5, 10) + inside(2, 5, -1) + inside(2, 11, 1)
    + frame(2, 10) + frame(5, 10) + level(10) + level(5) + level(-1)
    + make([0, 2], [0], [1, 2]) + near(2, 0) + level(0)
    + make([5, 7], [1, 2], [9, 9, 9, 9]) + near(2, 0) + near(6, 1) + frame(5, 3) + level(2)
    + make([5, 5], [1, 2], [8, 8, 8, 8]) + inside(7, 2, 16)
)
# The root of 1 + 1/25 is 1.0198: 2 less 10.198, 1 and 3 less as much.
SEVERAL_TOLD = [
    1, -3, 1, -3, 1, -3, 3, 0, 0, 0,
    3, 0, 27, 16, 3, 0, 9, 16, 3, 0, 1, 5, 1, -1,
    2, 0, 2, 2, 0, 108, 1, -4,
    2, 0, 2, 2, 0, -8, 1, -1, 1, -4,
    5, 0, -9, 0, -7, 0, 1, -4, 4, 0, 2, 3, 2, 4, 0, 1, 2, 1, 1, -4,
    3, 0, 2, 1, 2, 0, 1, 4, 0, 0, 1, 0,
    3, 0, 0, 0, 1, -4, 2, 0, 9, 5, 0, 6, 0, 6, 0, 3, 0, 9, 9,
    3, 0, 3, 1, 2, 0, -7,
]


class Answers(unittest.TestCase):
    def test_several_calls_on_one_object(self):
        self.assertEqual(answers(list(SEVERAL)), SEVERAL_TOLD)

    def test_it_gives_back_a_list_of_whole_numbers(self):
        told = answers(list(SEVERAL))
        self.assertIs(type(told), list)
        self.assertEqual({type(number) for number in told}, {int})

    def test_what_is_handed_in_is_not_changed(self):
        handed = list(SEVERAL)
        answers(handed)
        self.assertEqual(handed, SEVERAL)
        self.assertEqual(answers(Untouchable(SEVERAL)), SEVERAL_TOLD)

    def test_each_run_is_as_if_the_first(self):
        self.assertEqual(answers(list(SEVERAL)), answers(list(SEVERAL)))
        answers(make([0, 1], [0, 1], [1, 2, 3, 4]))
        self.assertEqual(answers(near(0, 0)), [1, -3])
        self.assertEqual(answers(list(SEVERAL)), SEVERAL_TOLD)

    def test_what_is_given_back_is_not_kept(self):
        told = answers(list(SEVERAL))
        told.clear()
        self.assertEqual(answers(list(SEVERAL)), SEVERAL_TOLD)

    def test_nothing_is_printed(self):
        out, err = io.StringIO(), io.StringIO()
        with contextlib.redirect_stdout(out), contextlib.redirect_stderr(err):
            answers(list(SEVERAL))
        self.assertEqual((out.getvalue(), err.getvalue()), ("", ""))

    def test_longest_rows(self):
        long = make(list(range(40)), list(range(30)), [0] * 600)
        self.assertEqual(answers(long + near(0, 0)), [3, 0, 2, 0, 1, -3])


class TheLargest(unittest.TestCase):
    def test_exact_and_in_good_time(self):
        source = random_source(41)
        places, heights, halves = random_table(source, 24, 16)
        places[0], places[-1], heights[0], heights[-1] = 0, LARGEST, -LARGEST, LARGEST
        halves[7], halves[200], halves[383] = LARGEST, 0, LARGEST
        points = [(source.randint(0, LARGEST), source.randint(-LARGEST, LARGEST)) for k in range(299)]
        calls = [at(x, z, k % 3) for k, (x, z) in enumerate(points)]
        begun = time.monotonic()
        told = ask(make(places, heights, halves), *calls)[1:]
        self.assertLess(time.monotonic() - begun, 10)
        hull = ReferenceHull(places, heights, halves)
        for call, answer in list(zip(calls, told))[:9]:
            self.assertEqual(answer, as_answer(hull.tell(*call[1:])), call)

    def test_half_breadths_that_go_to_and_fro_as_far_as_they_may(self):
        places = [k * 45590 for k in range(24)]
        heights = [k * 100 - 700 for k in range(16)]
        halves = [LARGEST * ((k + n) % 2) for n in range(16) for k in range(24)]
        hull = ReferenceHull(places, heights, halves, True)
        calls = [at(x, z, what) for x, z in ((1, -699), (500000, 0), (1048569, 799)) for what in range(3)]
        for call, answer in zip(calls, ask(make(places, heights, halves), *calls)[1:]):
            self.assertEqual(answer, as_answer(hull.tell(*call[1:])), call)

    def all_seven(self, source, table):
        """299 calls on the table, wrong ones among them."""
        places, heights, halves = table
        calls = []
        for k in range(299):
            x, z = source.randint(places[0], places[-1]), source.randint(heights[0], heights[-1])
            t = source.choice((0, 1, 16, LARGEST, source.randint(0, LARGEST)))
            kinds = (frame(x, t), inside(x, z, t), level(z), frame(x, t), inside(x, z, t), at(x, z, k % 3), near(x, z),
                     bevel(x, z), frame(x, -1), inside(places[-1] + 1, z, t), level(heights[0] - 1), make([], [], []))
            calls.append(kinds[k % len(kinds)])
        return calls

    def test_all_seven_calls_exact_and_in_good_time(self):
        source = random_source(43)
        table = random_table(source, 24, 16)
        table[0][0], table[0][-1], table[1][0], table[1][-1] = 0, LARGEST, -LARGEST, LARGEST
        table[2][3], table[2][4], table[2][380] = LARGEST, 0, LARGEST
        calls = self.all_seven(source, table)
        begun = time.monotonic()
        told = ask(make(*table), *calls)[1:]
        self.assertLess(time.monotonic() - begun, 10)
        self.assertEqual(ask(make(*table), *calls)[1:], told)
        hull = ReferenceHull(*table)
        answer_of = {
            2: lambda *given: as_answer(hull.tell(*given)),
            3: lambda x, z: [0, round(hull.tell(x, z, 0))],
            4: lambda x, z: [0, round(192 * hull.tell(x, z, 1))],
            5: lambda *given: [0, hull.inside(*given)],
            6: lambda *given: [0] + hull.frame(*given),
            7: lambda z: [0] + hull.level(z),
        }
        for call, answer in list(zip(calls, told))[:8]:
            self.assertEqual(answer, answer_of[call[0]](*call[1:]), call)
        for first, number in ((8, -1), (9, -4), (10, -4)):
            self.assertEqual(set(map(tuple, told[first::12])), {(number,)})
        self.assertEqual(set(map(tuple, told[11::12])), {(0, 2, 0)})

    def test_nothing_but_frames(self):
        source = random_source(44)
        table = random_table(source, 24, 16)
        calls = [frame(source.randint(table[0][0], table[0][-1]), LARGEST - k) for k in range(299)]
        begun = time.monotonic()
        told = ask(make(*table), *calls)[1:]
        self.assertLess(time.monotonic() - begun, 10)
        self.assertEqual({len(answer) for answer in told}, {33})
        self.assertEqual(told[-1], ask(make(*table), calls[-1])[1])

    def test_as_many_large_tables_as_fit_in_a_list(self):
        source = random_source(42)
        calls = []
        for k in range(37):
            places, heights, halves = random_table(source, 24, 16)
            calls.append(make(places, heights, halves))
        self.assertLess(sum(len(call) for call in calls), 16000)
        begun = time.monotonic()
        self.assertEqual(ask(*calls), [[0, 0, 0]] * 37)
        self.assertLess(time.monotonic() - begun, 10)


if __name__ == "__main__":
    unittest.main()
