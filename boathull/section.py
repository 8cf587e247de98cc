"""The hull at one place along it, told at any height."""

from boathull.batten import Batten
from boathull.quotient import nearest
from boathull.root import nearest_less_root

SIXTEENTHS_IN_A_FOOT = 192


class Section:
    """The battens up at x through what the level battens tell there.

    Half-breadth and slopes at z are told times one divisor, which they share.
    """

    def __init__(self, levels, upward, x):
        self.upward = upward
        self.divisor_along = levels[0].ground.divisor_at(x)
        self.halves_up = Batten(upward, [level.value_at(x) for level in levels])
        self.slopes_up = Batten(upward, [level.slope_at(x) for level in levels])

    def divisor(self, z):
        return self.divisor_along * self.upward.divisor_at(z)

    def half_breadth(self, z):
        return self.halves_up.value_at(z)

    def slope_along(self, z):
        return self.slopes_up.value_at(z)

    def slope_up(self, z):
        return self.halves_up.slope_at(z)

    def near(self, z):
        return nearest(self.half_breadth(z), self.divisor(z))

    def bevel(self, z):
        return nearest(SIXTEENTHS_IN_A_FOOT * self.slope_along(z), self.divisor(z))

    def inside(self, z, t):
        """The half-breadth within planks of thickness t, to the nearest whole number."""
        along = self.slope_along(z)
        up = self.slope_up(z)
        under = self.divisor(z)
        square = t * t * (under * under + along * along + up * up)
        return nearest_less_root(self.half_breadth(z), square, under)
