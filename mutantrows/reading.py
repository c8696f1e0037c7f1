"""From numbers to programs, relations and bounds, and programs, rows and outcomes back to numbers."""

from mutantrows.bounds import Bound, how_many_inputs
from mutantrows.sides import Relation

MOST_STEPS = 8
LAST_STEP = 17
LAST_CONDITION = 5
GREATEST_K = 9
LAST_STAND = 6
MOST_LENGTH = 8
LEAST_END = -99
GREATEST_END = 99
MOST_INPUTS = 1500

# From where to where c, m or k goes, for the steps that have one.
STEP_RANGES = {0: (-99, 99), 1: (-99, 99), 2: (1, 9), 6: (0, 9), 7: (0, 9), 8: (0, 9), 9: (-99, 99)}


class NotWhole(ValueError):
    """The list isn't a whole program, relation or bound."""


class Reader:
    """Goes through a list of numbers, which it doesn't change."""

    def __init__(self, numbers):
        self.numbers = numbers
        self.place = 0

    def is_done(self):
        return self.place >= len(self.numbers)

    def next_number(self):
        number = self.numbers[self.place]
        self.place = self.place + 1
        return number

    def next_list(self):
        how_many = self.next_number()
        start = self.place
        self.place = start + how_many
        return self.numbers[start:self.place]

    def number_from(self, low, high):
        if self.is_done():
            raise NotWhole("the list is too short")
        number = self.next_number()
        if number < low or number > high:
            raise NotWhole("a number is out of its range")
        return number

    def must_be_done(self):
        if not self.is_done():
            raise NotWhole("the list is too long")


def read_step(reader):
    number = reader.number_from(0, LAST_STEP)
    if number not in STEP_RANGES:
        return (number,)
    ends = STEP_RANGES[number]
    return (number, reader.number_from(ends[0], ends[1]))


def read_program(reader):
    how_many = reader.number_from(0, MOST_STEPS)
    return [read_step(reader) for place in range(how_many)]


def read_condition(reader):
    number = reader.number_from(0, LAST_CONDITION)
    if number < LAST_CONDITION:
        return (number,)
    return (number, reader.number_from(0, GREATEST_K))


def program_from(numbers):
    reader = Reader(numbers)
    program = read_program(reader)
    reader.must_be_done()
    return program


def relation_from(numbers):
    reader = Reader(numbers)
    condition = read_condition(reader)
    input_turning = read_program(reader)
    stand = reader.number_from(0, LAST_STAND)
    output_turning = read_program(reader)
    reader.must_be_done()
    return Relation(condition, input_turning, stand, output_turning)


def bound_from(numbers):
    reader = Reader(numbers)
    length = reader.number_from(0, MOST_LENGTH)
    low = reader.number_from(LEAST_END, GREATEST_END)
    high = reader.number_from(low, GREATEST_END)
    reader.must_be_done()
    bound = Bound(length, low, high)
    if how_many_inputs(bound) > MOST_INPUTS:
        raise NotWhole("the bound has too many inputs")
    return bound


def program_as_numbers(program):
    numbers = [len(program)]
    for step in program:
        numbers.extend(step)
    return numbers


def with_count(numbers):
    """A row, or a list of told ones: how many, they."""
    return [len(numbers)] + numbers


def outcome_as_numbers(outcome):
    return [0] if outcome is None else [1] + with_count(outcome)
