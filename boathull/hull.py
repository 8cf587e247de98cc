"""The hull that a good table tells: its half-breadth and its two slopes."""

from boathull.batten import Batten, Ground


def level_rows(halves, stations):
    """The half-breadths cut into one row for each level."""
    return [halves[first:first + stations] for first in range(0, len(halves), stations)]


class Hull:
    """A table's level battens, and the heights that battens up are laid over.

    Half-breadth and slopes are told as two whole numbers, the quotient's, not in lowest terms.
    """

    def __init__(self, places, heights, halves):
        self.along = Ground(places)
        self.upward = Ground(heights)
        self.levels = [Batten(self.along, row) for row in level_rows(halves, len(places))]

    def holds_point(self, x, z):
        return self.along.holds(x) and self.upward.holds(z)

    def divisor(self, x, z):
        return self.along.divisor_at(x) * self.upward.divisor_at(z)

    def batten_up(self, x):
        """The batten up through what the level battens tell at x."""
        return Batten(self.upward, [level.value_at(x) for level in self.levels])

    def batten_up_of_slopes(self, x):
        """The batten up through the level battens' slopes at x."""
        return Batten(self.upward, [level.slope_at(x) for level in self.levels])

    def half_breadth(self, x, z):
        return (self.batten_up(x).value_at(z), self.divisor(x, z))

    def slope_along(self, x, z):
        return (self.batten_up_of_slopes(x).value_at(z), self.divisor(x, z))

    def slope_up(self, x, z):
        return (self.batten_up(x).slope_at(z), self.divisor(x, z))
