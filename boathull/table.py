"""What a table must be, and the first thing that is wrong with one."""

LARGEST_MEASURE = 1048575
FEWEST = 2
MOST_STATIONS = 24
MOST_LEVELS = 16

GOOD = 0
WRONG_HALVES_COUNT = 1
WRONG_COUNT = 2
WRONG_PLACE = 3
WRONG_HEIGHT = 4
WRONG_HALF = 5


def first_not_between(numbers, least, most):
    """The number, from 0, of the first that isn't one from least to most, or None."""
    for k, number in enumerate(numbers):
        if not least <= number <= most:
            return k
    return None


def first_not_rising(numbers, least, most):
    """The number, from 0, of the first that isn't one from least to most or not above the one before, or None."""
    for k, number in enumerate(numbers):
        if not least <= number <= most:
            return k
        # From here on least is what the next one must reach to be above this one.
        least = number + 1
    return None


def first_wrong_count(places, heights, halves):
    """The kind and the number of the first count that is wrong, or None."""
    if not FEWEST <= len(places) <= MOST_STATIONS:
        return [WRONG_COUNT, 0]
    if not FEWEST <= len(heights) <= MOST_LEVELS:
        return [WRONG_COUNT, 1]
    if len(halves) != len(places) * len(heights):
        return [WRONG_HALVES_COUNT, len(halves)]
    return None


def first_wrong_number(places, heights, halves):
    """The kind and the number of the first row's first number that is wrong, or None."""
    unfit = first_not_rising(places, 0, LARGEST_MEASURE)
    if unfit is not None:
        return [WRONG_PLACE, unfit]
    unfit = first_not_rising(heights, -LARGEST_MEASURE, LARGEST_MEASURE)
    if unfit is not None:
        return [WRONG_HEIGHT, unfit]
    unfit = first_not_between(halves, 0, LARGEST_MEASURE)
    if unfit is not None:
        return [WRONG_HALF, unfit]
    return None


def verdict(places, heights, halves):
    """The kind and the number that make answers for these."""
    wrong = first_wrong_count(places, heights, halves)
    if wrong is None:
        wrong = first_wrong_number(places, heights, halves)
    if wrong is None:
        return [GOOD, 0]
    return wrong
