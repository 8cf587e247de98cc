"""Quotients of two whole numbers, the second above 0."""


def common_divisor(first, second):
    """The greatest whole number that divides both, which are 0 or more."""
    while second != 0:
        rest = first % second
        first = second
        second = rest
    return first


def lowest_terms(over, under):
    """The quotient over / under as two whole numbers in lowest terms."""
    shared = common_divisor(abs(over), under)
    return [over // shared, under // shared]


def nearest(over, under):
    """The whole number nearest to over / under, of two as near the even one."""
    below = over // under
    twice_rest = 2 * (over - below * under)
    if twice_rest > under:
        return below + 1
    if twice_rest == under and below % 2 == 1:
        return below + 1
    return below
