"""The object that calls are made on, and each call's answer as a list."""

from boathull.hull import Hull
from boathull.quotient import lowest_terms
from boathull.table import GOOD, LARGEST_MEASURE, verdict

DONE = 0
WRONG_ARGUMENT = -1
NO_TABLE = -3
OUTSIDE = -4

HALF_BREADTH = 0
SLOPE_ALONG = 1
SLOPE_UP = 2


def told_at(section, z, what):
    if what == HALF_BREADTH:
        return section.half_breadth(z)
    if what == SLOPE_ALONG:
        return section.slope_along(z)
    return section.slope_up(z)


def is_thickness(t):
    return 0 <= t <= LARGEST_MEASURE


class Boat:
    """One boat: without a hull until a make brings a good table."""

    def __init__(self):
        self.hull = None

    def make(self, places, heights, halves):
        found = verdict(places, heights, halves)
        if found[0] == GOOD:
            self.hull = Hull(places, heights, halves)
        return [DONE] + found

    def refusal(self, arguments_fit, x, z):
        """The first reason to refuse a call, or None; x or z is None where the call has none."""
        if self.hull is None:
            return NO_TABLE
        if not arguments_fit:
            return WRONG_ARGUMENT
        if x is not None and not self.hull.along.holds(x):
            return OUTSIDE
        if z is not None and not self.hull.upward.holds(z):
            return OUTSIDE
        return None

    def at(self, x, z, what):
        refused = self.refusal(HALF_BREADTH <= what <= SLOPE_UP, x, z)
        if refused is not None:
            return [refused]
        section = self.hull.section(x)
        return [DONE] + lowest_terms(told_at(section, z, what), section.divisor(z))

    def near(self, x, z):
        refused = self.refusal(True, x, z)
        if refused is not None:
            return [refused]
        return [DONE, self.hull.section(x).near(z)]

    def bevel(self, x, z):
        refused = self.refusal(True, x, z)
        if refused is not None:
            return [refused]
        return [DONE, self.hull.section(x).bevel(z)]

    def inside(self, x, z, t):
        refused = self.refusal(is_thickness(t), x, z)
        if refused is not None:
            return [refused]
        return [DONE, self.hull.section(x).inside(z, t)]

    def frame(self, x, t):
        refused = self.refusal(is_thickness(t), x, None)
        if refused is not None:
            return [refused]
        return [DONE] + self.hull.frame(x, t)

    def level(self, z):
        refused = self.refusal(True, None, z)
        if refused is not None:
            return [refused]
        return [DONE] + self.hull.level(z)
