"""The hull that a good table tells, and its views across and along."""

from boathull.batten import Batten, Ground
from boathull.quotient import nearest
from boathull.section import Section


def level_rows(halves, stations):
    """The half-breadths cut into one row for each level."""
    return [halves[first:first + stations] for first in range(0, len(halves), stations)]


def station_rows(halves, stations):
    """The half-breadths sorted into one row for each station."""
    return [halves[first::stations] for first in range(stations)]


class Hull:
    """A table's battens along its levels and up its stations."""

    def __init__(self, places, heights, halves):
        self.along = Ground(places)
        self.upward = Ground(heights)
        self.levels = [Batten(self.along, row) for row in level_rows(halves, len(places))]
        self.stations = [Batten(self.upward, row) for row in station_rows(halves, len(places))]

    def section(self, x):
        return Section(self.levels, self.upward, x)

    def frame(self, x, t):
        """For each level, from the lowest, the half-breadth within planks of thickness t, and the bevel."""
        section = self.section(x)
        told = []
        for height in self.upward.places:
            told.append(section.inside(height, t))
            told.append(section.bevel(height))
        return told

    def level(self, z):
        """For each station the half-breadth at z, to the nearest whole number."""
        # At a station the level battens tell the table's own numbers, so its own batten is the one up.
        under = self.upward.divisor_at(z)
        return [nearest(station.value_at(z), under) for station in self.stations]
