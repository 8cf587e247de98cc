"""Battens: the cubics through a line's nails that bend least, in whole numbers.

With gaps h[k] between the nails, values y[k] and bends m[k], m being 0 at both ends,
the cubics have one slope at each inner nail k if
  h[k-1] m[k-1] + 2 (h[k-1] + h[k]) m[k] + h[k] m[k+1]
    = 6 ((y[k+1] - y[k]) / h[k] - (y[k] - y[k-1]) / h[k-1]).
These rows are solved without a quotient: all bends of one line share one divisor,
which the places alone tell, and so do all values and slopes at one place.
"""


def gaps_between(places):
    return [places[k + 1] - places[k] for k in range(len(places) - 1)]


def product_of(numbers):
    product = 1
    for number in numbers:
        product = product * number
    return product


def leading_minors(gaps):
    """The determinants of the first 0, 1, 2 .. rows; none is 0, the middle outweighing both sides of a row."""
    minors = [1]
    before = 0
    for k in range(1, len(gaps)):
        middle = 2 * (gaps[k - 1] + gaps[k])
        minor = middle * minors[k - 1] - gaps[k - 1] * gaps[k - 1] * before
        before = minors[k - 1]
        minors.append(minor)
    return minors


class Ground:
    """What all battens with nails at the same places have in common."""

    def __init__(self, places):
        self.places = list(places)
        self.gaps = gaps_between(places)
        self.gaps_product = product_of(self.gaps)
        self.minors = leading_minors(self.gaps)
        self.bends_divisor = self.gaps_product * self.minors[-1]

    def holds(self, place):
        return self.places[0] <= place <= self.places[-1]

    def piece_at(self, place):
        """The number of a cubic over the place, which is held: at an inner nail both that meet there tell the same."""
        k = 0
        while self.places[k + 1] < place:
            k = k + 1
        return k

    def divisor_at(self, place):
        """What each batten's value and slope at the place are to be divided by."""
        return 6 * self.bends_divisor * self.gaps[self.piece_at(place)]


def scaled_rise(ground, values, k):
    """The straight slope from nail k to the next, times the product of all gaps."""
    return (values[k + 1] - values[k]) * (ground.gaps_product // ground.gaps[k])


def eliminated_sides(ground, values):
    """The rows' right sides once each row is rid of the bend before its own."""
    sides = [0]
    for k in range(1, len(ground.gaps)):
        side = 6 * (scaled_rise(ground, values, k) - scaled_rise(ground, values, k - 1))
        sides.append(ground.minors[k - 1] * side - ground.gaps[k - 1] * sides[k - 1])
    return sides


def bends_through(ground, values):
    """The bend at each nail, times the ground's divisor of bends."""
    sides = eliminated_sides(ground, values)
    minors = ground.minors
    bends = [0] * len(values)
    for k in range(len(ground.gaps) - 1, 0, -1):
        # By Cramer's rule each bend times the last minor is whole, so nothing is lost here.
        rest = minors[-1] * sides[k] - minors[k - 1] * ground.gaps[k] * bends[k + 1]
        bends[k] = rest // minors[k]
    return bends


class Batten:
    """The batten over a ground through whole values, one for each place."""

    def __init__(self, ground, values):
        self.ground = ground
        self.nails = list(values)
        self.bends = bends_through(ground, values)

    def value_at(self, place):
        """The batten's value, times the ground's divisor at the place."""
        k = self.ground.piece_at(place)
        gap = self.ground.gaps[k]
        behind = place - self.ground.places[k]
        ahead = gap - behind
        straight = ahead * self.nails[k] + behind * self.nails[k + 1]
        bent_before = self.bends[k] * ahead * (ahead * ahead - gap * gap)
        bent_after = self.bends[k + 1] * behind * (behind * behind - gap * gap)
        return 6 * self.ground.bends_divisor * straight + bent_before + bent_after

    def slope_at(self, place):
        """The batten's slope, times the ground's divisor at the place."""
        k = self.ground.piece_at(place)
        gap = self.ground.gaps[k]
        behind = place - self.ground.places[k]
        ahead = gap - behind
        straight = self.nails[k + 1] - self.nails[k]
        bent_before = self.bends[k] * (gap * gap - 3 * ahead * ahead)
        bent_after = self.bends[k + 1] * (3 * behind * behind - gap * gap)
        return 6 * self.ground.bends_divisor * straight + bent_before + bent_after
