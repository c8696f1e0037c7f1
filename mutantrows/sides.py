"""Relations: conditions, how two rows stand, and where a program breaks one."""

from mutantrows.rows import run


class Relation:
    """A condition is a tuple: its number and, if it has one, its k."""

    def __init__(self, condition, input_turning, stand, output_turning):
        self.condition = condition
        self.input_turning = input_turning
        self.stand = stand
        self.output_turning = output_turning


def is_any(row):
    return True


def has_numbers(row):
    return len(row) > 0


def is_rising(row):
    return row == sorted(row)


def has_none_below_zero(row):
    return all([number >= 0 for number in row])


def has_none_twice(row):
    return len(set(row)) == len(row)


# In the order of the conditions' numbers; the one with k follows them.
CONDITIONS = (is_any, has_numbers, is_rising, has_none_below_zero, has_none_twice)


def is_so(condition, row):
    if condition[0] < len(CONDITIONS):
        return CONDITIONS[condition[0]](row)
    return len(row) >= condition[1]


def are_equal(left, right):
    return left == right


def are_same_bag(left, right):
    return sorted(left) == sorted(right)


def have_same_numbers(left, right):
    return set(left) == set(right)


def is_at_most(left, right):
    return len(left) == len(right) and all([first <= second for first, second in zip(left, right)])


def is_at_least(left, right):
    return is_at_most(right, left)


def is_beginning(left, right):
    return left == right[:len(left)]


def are_as_long(left, right):
    return len(left) == len(right)


# In the order of their numbers.
STANDS = (are_equal, are_same_bag, have_same_numbers, is_at_most, is_at_least, is_beginning, are_as_long)


def is_broken(relation, program, row):
    """Whether the program breaks the relation at the row; where it's off, it doesn't."""
    if not is_so(relation.condition, row):
        return False
    outcome = run(program, row)
    turned = run(relation.input_turning, row)
    if outcome is None or turned is None:
        return False
    left = run(program, turned)
    right = run(relation.output_turning, outcome)
    if left is None or right is None:
        return False
    return not STANDS[relation.stand](left, right)


def is_good(relation, program, rows):
    return not any([is_broken(relation, program, row) for row in rows])
