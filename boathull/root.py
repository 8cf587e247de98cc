"""Square roots, by whole numbers alone."""

from boathull.quotient import nearest


def whole_root(number):
    """The largest whole number whose square is at most the number, which is 0 or more."""
    # The first guess lies above the root; each that follows is less, and never less than what is asked.
    guess = 1 << ((number.bit_length() + 1) // 2)
    while guess * guess > number:
        guess = (guess + number // guess) // 2
    return guess


def nearest_less_root(over, square, under):
    """The whole number nearest to (over - the root of square) / under, of two as near the even one."""
    twice_root = whole_root(4 * square)
    if twice_root * twice_root == 4 * square:
        return nearest(2 * over - twice_root, 2 * under)
    # A root that isn't whole is no quotient, so nothing is halfway; and twice the root may be
    # taken up to the next whole number, as the rounding down below goes to a whole number anyway.
    return (2 * over + under - twice_root - 1) // (2 * under)
