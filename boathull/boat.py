"""The object that calls are made on, and each call's answer as a list."""

from boathull.hull import Hull
from boathull.quotient import lowest_terms, nearest
from boathull.table import GOOD, verdict

DONE = 0
WRONG_ARGUMENT = -1
NO_TABLE = -3
OUTSIDE = -4

HALF_BREADTH = 0
SLOPE_ALONG = 1
SLOPE_UP = 2

SIXTEENTHS_IN_A_FOOT = 192


def quotient_at(hull, x, z, what):
    if what == HALF_BREADTH:
        return hull.half_breadth(x, z)
    if what == SLOPE_ALONG:
        return hull.slope_along(x, z)
    return hull.slope_up(x, z)


class Boat:
    """One boat: without a hull until a make brings a good table."""

    def __init__(self):
        self.hull = None

    def make(self, places, heights, halves):
        found = verdict(places, heights, halves)
        if found[0] == GOOD:
            self.hull = Hull(places, heights, halves)
        return [DONE] + found

    def refusal(self, x, z, arguments_fit):
        """The first reason to refuse a call at x and z, or None."""
        if self.hull is None:
            return NO_TABLE
        if not arguments_fit:
            return WRONG_ARGUMENT
        if not self.hull.holds_point(x, z):
            return OUTSIDE
        return None

    def at(self, x, z, what):
        refused = self.refusal(x, z, HALF_BREADTH <= what <= SLOPE_UP)
        if refused is not None:
            return [refused]
        told = quotient_at(self.hull, x, z, what)
        return [DONE] + lowest_terms(told[0], told[1])

    def near(self, x, z):
        refused = self.refusal(x, z, True)
        if refused is not None:
            return [refused]
        told = self.hull.half_breadth(x, z)
        return [DONE, nearest(told[0], told[1])]

    def bevel(self, x, z):
        refused = self.refusal(x, z, True)
        if refused is not None:
            return [refused]
        told = self.hull.slope_along(x, z)
        return [DONE, nearest(SIXTEENTHS_IN_A_FOOT * told[0], told[1])]
