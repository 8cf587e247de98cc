"""The interface: boathull.floor.answers."""

import contextlib
import io
import time
import unittest

from boathull.floor import answers
from reference import LARGEST, ReferenceHull, as_answer, ask, at, bevel, make, near, random_source, random_table


class Untouchable(list):
    """A list that can be read and not changed, not for a while either."""

    def refuse(self, *given):
        raise AssertionError("what is handed in was changed")

    __setitem__ = __delitem__ = __iadd__ = __imul__ = refuse
    append = extend = insert = pop = remove = clear = sort = reverse = refuse


SEVERAL = (
    near(0, 0)
    + make([0, 2, 4], [0, 10], [0, 1, 0, 2, 3, 2])
    + at(1, 5, 0) + at(1, 5, 1) + at(1, 5, 2) + at(1, 5, 3)
    + near(1, 5) + bevel(1, 5) + near(5, 5)
    + make([0, 2], [0], [1, 2]) + near(2, 0)
    + make([5, 7], [1, 2], [9, 9, 9, 9]) + near(2, 0) + near(6, 1)
)
SEVERAL_TOLD = [
    1, -3, 3, 0, 0, 0,
    3, 0, 27, 16, 3, 0, 9, 16, 3, 0, 1, 5, 1, -1,
    2, 0, 2, 2, 0, 108, 1, -4,
    3, 0, 2, 1, 2, 0, 1,
    3, 0, 0, 0, 1, -4, 2, 0, 9,
]


class Answers(unittest.TestCase):
    def test_several_calls_on_one_object(self):
        self.assertEqual(answers(list(SEVERAL)), SEVERAL_TOLD)

    def test_it_gives_back_a_list_of_whole_numbers(self):
        told = answers(list(SEVERAL))
        self.assertIs(type(told), list)
        self.assertEqual({type(number) for number in told}, {int})

    def test_what_is_handed_in_is_not_changed(self):
        handed = list(SEVERAL)
        answers(handed)
        self.assertEqual(handed, SEVERAL)
        self.assertEqual(answers(Untouchable(SEVERAL)), SEVERAL_TOLD)

    def test_each_run_is_as_if_the_first(self):
        self.assertEqual(answers(list(SEVERAL)), answers(list(SEVERAL)))
        answers(make([0, 1], [0, 1], [1, 2, 3, 4]))
        self.assertEqual(answers(near(0, 0)), [1, -3])
        self.assertEqual(answers(list(SEVERAL)), SEVERAL_TOLD)

    def test_what_is_given_back_is_not_kept(self):
        told = answers(list(SEVERAL))
        told.clear()
        self.assertEqual(answers(list(SEVERAL)), SEVERAL_TOLD)

    def test_nothing_is_printed(self):
        out, err = io.StringIO(), io.StringIO()
        with contextlib.redirect_stdout(out), contextlib.redirect_stderr(err):
            answers(list(SEVERAL))
        self.assertEqual((out.getvalue(), err.getvalue()), ("", ""))

    def test_longest_rows(self):
        long = make(list(range(40)), list(range(30)), [0] * 600)
        self.assertEqual(answers(long + near(0, 0)), [3, 0, 2, 0, 1, -3])


class TheLargest(unittest.TestCase):
    def test_exact_and_in_good_time(self):
        source = random_source(41)
        places, heights, halves = random_table(source, 24, 16)
        places[0], places[-1], heights[0], heights[-1] = 0, LARGEST, -LARGEST, LARGEST
        halves[7], halves[200], halves[383] = LARGEST, 0, LARGEST
        points = [(source.randint(0, LARGEST), source.randint(-LARGEST, LARGEST)) for k in range(299)]
        calls = [at(x, z, k % 3) for k, (x, z) in enumerate(points)]
        begun = time.monotonic()
        told = ask(make(places, heights, halves), *calls)[1:]
        self.assertLess(time.monotonic() - begun, 10)
        hull = ReferenceHull(places, heights, halves)
        for call, answer in list(zip(calls, told))[:9]:
            self.assertEqual(answer, as_answer(hull.tell(*call[1:])), call)

    def test_half_breadths_that_go_to_and_fro_as_far_as_they_may(self):
        places = [k * 45590 for k in range(24)]
        heights = [k * 100 - 700 for k in range(16)]
        halves = [LARGEST * ((k + n) % 2) for n in range(16) for k in range(24)]
        hull = ReferenceHull(places, heights, halves, True)
        calls = [at(x, z, what) for x, z in ((1, -699), (500000, 0), (1048569, 799)) for what in range(3)]
        for call, answer in zip(calls, ask(make(places, heights, halves), *calls)[1:]):
            self.assertEqual(answer, as_answer(hull.tell(*call[1:])), call)

    def test_as_many_large_tables_as_fit_in_a_list(self):
        source = random_source(42)
        calls = []
        for k in range(37):
            places, heights, halves = random_table(source, 24, 16)
            calls.append(make(places, heights, halves))
        self.assertLess(sum(len(call) for call in calls), 16000)
        begun = time.monotonic()
        self.assertEqual(ask(*calls), [[0, 0, 0]] * 37)
        self.assertLess(time.monotonic() - begun, 10)


if __name__ == "__main__":
    unittest.main()
