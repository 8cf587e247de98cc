"""The calls on one boat, read from one list of whole numbers and answered in another."""

from boathull.boat import Boat

MAKE = 1
AT = 2
NEAR = 3
BEVEL = 4
INSIDE = 5
FRAME = 6

ROWS_OF_MAKE = 3
NUMBERS_OF_CALL = {2: 3, 3: 2, 4: 2, 5: 3, 6: 2, 7: 1}


def rows_behind(calls, start, count):
    """So many rows, each with its length before it."""
    rows = []
    for k in range(count):
        first = start + 1
        start = first + calls[start]
        rows.append(calls[first:start])
    return rows


def arguments_behind(calls, start, number):
    """What is handed to the call of this number: rows or whole numbers."""
    if number == MAKE:
        return rows_behind(calls, start, ROWS_OF_MAKE)
    return calls[start:start + NUMBERS_OF_CALL[number]]


def width_of(number, given):
    """How many numbers of the list the arguments take."""
    if number == MAKE:
        return sum([1 + len(row) for row in given])
    return len(given)


def answer(boat, number, given):
    if number == MAKE:
        return boat.make(given[0], given[1], given[2])
    if number == AT:
        return boat.at(given[0], given[1], given[2])
    if number == NEAR:
        return boat.near(given[0], given[1])
    if number == BEVEL:
        return boat.bevel(given[0], given[1])
    if number == INSIDE:
        return boat.inside(given[0], given[1], given[2])
    if number == FRAME:
        return boat.frame(given[0], given[1])
    return boat.level(given[0])


def answers(calls):
    """For each call, in order, how many numbers are answered, and these."""
    boat = Boat()
    told = []
    start = 0
    while start < len(calls):
        number = calls[start]
        given = arguments_behind(calls, start + 1, number)
        start = start + 1 + width_of(number, given)
        answered = answer(boat, number, given)
        told.append(len(answered))
        told.extend(answered)
    return told
