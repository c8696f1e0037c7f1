"""Bounds and their inputs."""


class Bound:
    """All rows of up to length numbers, each from low to high."""

    def __init__(self, length, low, high):
        self.length = length
        self.low = low
        self.high = high


def how_many_inputs(bound):
    """Counted without making the rows, as a told bound may have far too many."""
    width = bound.high - bound.low + 1
    as_long = 1
    total = 0
    for length in range(bound.length + 1):
        total = total + as_long
        as_long = as_long * width
    return total


def inputs_of(bound):
    """The inputs in the order of their numbers."""
    rows = [[]]
    longest = [[]]
    for length in range(bound.length):
        longest = longer_by_one(longest, bound)
        rows.extend(longest)
    return rows


def longer_by_one(rows, bound):
    longer = []
    for row in rows:
        for number in range(bound.low, bound.high + 1):
            longer.append(row + [number])
    return longer
