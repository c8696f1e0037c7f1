"""Rows, the steps that are done on them, and runs of programs.

A row is a list of whole numbers. A step is a tuple: its number and, if it has
one, its c, m or k. A program is a list of steps.
"""

MOST_NUMBERS = 40
FARTHEST_NUMBER = 1000000


def add_to_each(row, c):
    return [number + c for number in row]


def times_each(row, c):
    return [number * c for number in row]


def rest_of_each(row, m):
    return [number % m for number in row]


def rotated(row, k):
    if len(row) == 0:
        return []
    moved = k % len(row)
    return row[moved:] + row[:moved]


def first_ones(row, k):
    return row[:k]


def all_but_first_ones(row, k):
    return row[k:]


def those_above(row, c):
    return [number for number in row if number > c]


def without_signs(row):
    return [abs(number) for number in row]


def put_rising(row):
    return sorted(row)


def turned_round(row):
    return list(reversed(row))


def each_once(row):
    kept = []
    for number in row:
        if number not in kept:
            kept.append(number)
    return kept


def sum_alone(row):
    return [sum(row)]


def greatest_alone(row):
    return [max(row)] if row else []


def least_alone(row):
    return [min(row)] if row else []


def count_alone(row):
    return [len(row)]


def steps_between(row):
    return [second - first for first, second in zip(row, row[1:])]


def sums_so_far(row):
    sums = []
    so_far = 0
    for number in row:
        so_far = so_far + number
        sums.append(so_far)
    return sums


def row_twice(row):
    return row + row


# The keys are the steps' numbers, as the document tells them.
STEPS_WITH_A_NUMBER = {
    0: add_to_each,
    1: times_each,
    2: rest_of_each,
    6: rotated,
    7: first_ones,
    8: all_but_first_ones,
    9: those_above,
}

PLAIN_STEPS = {
    3: without_signs,
    4: put_rising,
    5: turned_round,
    10: each_once,
    11: sum_alone,
    12: greatest_alone,
    13: least_alone,
    14: count_alone,
    15: steps_between,
    16: sums_so_far,
    17: row_twice,
}


def after_step(step, row):
    """What comes of one step; the row itself is left as it is."""
    if step[0] in PLAIN_STEPS:
        return PLAIN_STEPS[step[0]](row)
    return STEPS_WITH_A_NUMBER[step[0]](row, step[1])


def is_beyond(row):
    if len(row) > MOST_NUMBERS:
        return True
    return any([abs(number) > FARTHEST_NUMBER for number in row])


def run(program, row):
    """The program's outcome on the row, or None if the run is beyond."""
    outcome = list(row)
    for step in program:
        outcome = after_step(step, outcome)
        # A later step might bring the row back, but the run stays beyond.
        if is_beyond(outcome):
            return None
    return outcome
