"""What the tests share: calls written out, answers taken apart, and the hull told a second way.

The reference lays each batten by the document's own words: for every cubic its four unknowns,
and one equation for each thing that is said of a batten, solved with fractions.
"""

import random
from fractions import Fraction

from boathull.floor import answers

LARGEST = 1048575
FAR = 9223372036854775807


def make(places, heights, halves):
    return [1, len(places), *places, len(heights), *heights, len(halves), *halves]


def at(x, z, what):
    return [2, x, z, what]


def near(x, z):
    return [3, x, z]


def bevel(x, z):
    return [4, x, z]


def inside(x, z, t):
    return [5, x, z, t]


def frame(x, t):
    return [6, x, t]


def level(z):
    return [7, z]


def ask(*calls):
    """Each call's answer, as a list of lists."""
    told = answers([number for call in calls for number in call])
    apart = []
    start = 0
    while start < len(told):
        behind = start + 1 + told[start]
        apart.append(told[start + 1:behind])
        start = behind
    assert start == len(told) and len(apart) == len(calls), told
    return apart


def ask_last(*calls):
    return ask(*calls)[-1]


def batten_equations(places, lines):
    """Rows of (unknown -> factor, right sides); unknown 4k + p is the factor of s ** p in cubic k."""
    count = len(places) - 1
    nothing = [Fraction(0)] * len(lines)
    rows = [({2: Fraction(2)}, nothing)]
    for k in range(count):
        gap = Fraction(places[k + 1] - places[k])
        u = 4 * k
        rows.append(({u: Fraction(1)}, [Fraction(line[k]) for line in lines]))
        whole = {u: Fraction(1), u + 1: gap, u + 2: gap ** 2, u + 3: gap ** 3}
        rows.append((whole, [Fraction(line[k + 1]) for line in lines]))
        if k + 1 < count:
            rows.append(({u + 1: Fraction(1), u + 2: 2 * gap, u + 3: 3 * gap ** 2, u + 5: Fraction(-1)}, nothing))
            rows.append(({u + 2: Fraction(2), u + 3: 6 * gap, u + 6: Fraction(-2)}, nothing))
        else:
            rows.append(({u + 2: Fraction(2), u + 3: 6 * gap}, nothing))
    return rows


def solve(rows, unknowns):
    """For each unknown its values, one for each right side."""
    rows = [(dict(factors), list(sides)) for factors, sides in rows]
    for u in range(unknowns):
        pivot = next(k for k in range(u, len(rows)) if rows[k][0].get(u, 0) != 0)
        rows[u], rows[pivot] = rows[pivot], rows[u]
        factor = rows[u][0][u]
        here = {v: f / factor for v, f in rows[u][0].items() if f != 0}
        sides = [side / factor for side in rows[u][1]]
        rows[u] = (here, sides)
        for k in range(len(rows)):
            times = rows[k][0].get(u, 0)
            if k == u or times == 0:
                continue
            changed = dict(rows[k][0])
            for v, f in here.items():
                changed[v] = changed.get(v, 0) - times * f
            rows[k] = (changed, [a - times * b for a, b in zip(rows[k][1], sides)])
    return [rows[u][1] for u in range(unknowns)]


def cubics_of(places, lines):
    """For each line the cubics of its batten, each by its four factors."""
    count = len(places) - 1
    solved = solve(batten_equations(places, lines), 4 * count)
    return [[[solved[4 * k + p][n] for p in range(4)] for k in range(count)] for n in range(len(lines))]


def cubic_at(places, cubics, x, slope):
    k = max(k for k in range(len(cubics)) if places[k] <= x)
    s = x - places[k]
    a, b, c, d = cubics[k]
    if slope:
        return b + 2 * c * s + 3 * d * s ** 2
    return a + b * s + c * s ** 2 + d * s ** 3


class ReferenceHull:
    """The hull by level battens first; turned tells it by the stations' battens first."""

    def __init__(self, places, heights, halves, turned=False):
        stations = len(places)
        self.turned = turned
        self.first, self.second = (heights, places) if turned else (places, heights)
        lines = [halves[k:k + stations] for k in range(0, len(halves), stations)]
        if turned:
            lines = [list(line) for line in zip(*lines)]
        self.cubics = cubics_of(self.first, lines)

    def tell(self, x, z, what):
        first, second, first_slope = (z, x, 2) if self.turned else (x, z, 1)
        values = [cubic_at(self.first, cubics, first, what == first_slope) for cubics in self.cubics]
        across = cubics_of(self.second, [values])[0]
        return cubic_at(self.second, across, second, what == 3 - first_slope)

    def inside(self, x, z, t):
        return nearest_within(self.tell(x, z, 0), self.tell(x, z, 1), self.tell(x, z, 2), t)

    def frame(self, x, t):
        heights = self.first if self.turned else self.second
        pairs = [(self.inside(x, z, t), round(192 * self.tell(x, z, 1))) for z in heights]
        return [number for pair in pairs for number in pair]

    def level(self, z):
        places = self.second if self.turned else self.first
        return [round(self.tell(x, z, 0)) for x in places]


def nearest_within(half, along, up, t):
    """Found by halving: squares of fractions are compared and no root is drawn."""
    square = t * t * (1 + along ** 2 + up ** 2)

    def reaches(number):
        return half >= number and (half - number) ** 2 >= square

    low, high = -1, 1
    while not reaches(low):
        low *= 2
    while reaches(high):
        high *= 2
    while high - low > 1:
        middle = (low + high) // 2
        low, high = (middle, high) if reaches(middle) else (low, middle)
    halfway = low + Fraction(1, 2)
    if not reaches(halfway):
        return low
    if (half - halfway) ** 2 == square and low % 2 == 0:
        return low
    return high


def as_answer(quotient):
    return [0, quotient.numerator, quotient.denominator]


def random_table(source, stations, levels, largest=LARGEST, most_half=LARGEST):
    places = sorted(source.sample(range(largest + 1), stations))
    heights = sorted(source.sample(range(-largest, largest + 1), levels))
    halves = [source.randint(0, most_half) for k in range(stations * levels)]
    return places, heights, halves


def random_source(seed):
    return random.Random(seed)
