"""The calls on one object, as one list of numbers."""

from mutantrows.bounds import Bound, how_many_inputs, inputs_of
from mutantrows.mutants import mutants_of
from mutantrows.reading import NotWhole, Reader, bound_from, program_as_numbers, program_from, relation_from
from mutantrows.sides import is_good

MOST_RELATIONS = 6
MOST_INPUTS_TO_LOOK_AT = 40


class NoSuchMutant(ValueError):
    """The program has no mutant of this number."""


class TooManyRelations(ValueError):
    """There are as many relations already as there may be."""


class TooManyInputs(ValueError):
    """The bound has more inputs than relations are looked at."""


class Bench:
    """The object that the calls are made on."""

    def __init__(self):
        self.program = []
        self.relations = []
        self.bound = Bound(0, 0, 0)


def take_program(bench, steps):
    bench.program = program_from(steps)
    return [len(bench.program), len(mutants_of(bench.program))]


def take_relation(bench, parts):
    relation = relation_from(parts)
    if len(bench.relations) >= MOST_RELATIONS:
        raise TooManyRelations("there are 6 relations already")
    bench.relations.append(relation)
    return [len(bench.relations) - 1]


def clear_relations(bench):
    bench.relations = []
    return [0]


def take_bound(bench, ends):
    bench.bound = bound_from(ends)
    return [how_many_inputs(bench.bound)]


def tell_mutants(bench):
    mutants = mutants_of(bench.program)
    answer = [len(mutants)]
    for mutant in mutants:
        answer.extend([mutant.way, mutant.place])
    return answer


def tell_mutant(bench, number):
    mutants = mutants_of(bench.program)
    if number < 0 or number >= len(mutants):
        raise NoSuchMutant("there is no such mutant")
    mutant = mutants[number]
    return [mutant.way, mutant.place] + program_as_numbers(mutant.program)


def inputs_to_look_at(bench):
    if how_many_inputs(bench.bound) > MOST_INPUTS_TO_LOOK_AT:
        raise TooManyInputs("the bound has more than 40 inputs")
    return inputs_of(bench.bound)


def tell_good(bench):
    rows = inputs_to_look_at(bench)
    good = []
    for number in range(len(bench.relations)):
        if is_good(bench.relations[number], bench.program, rows):
            good.append(number)
    return [len(good)] + good


# The keys are the calls' numbers, as the document tells them.
CALLS_WITH_A_LIST = {0: take_program, 1: take_relation, 3: take_bound}
CALLS_WITH_A_NUMBER = {5: tell_mutant}
PLAIN_CALLS = {2: clear_relations, 4: tell_mutants, 6: tell_good}


def carry_out(bench, reader):
    call = reader.next_number()
    if call in CALLS_WITH_A_LIST:
        return CALLS_WITH_A_LIST[call](bench, reader.next_list())
    if call in CALLS_WITH_A_NUMBER:
        return CALLS_WITH_A_NUMBER[call](bench, reader.next_number())
    return PLAIN_CALLS[call](bench)


def answer_or_refusal(bench, reader):
    try:
        return carry_out(bench, reader)
    except NotWhole:
        return [-1]
    except NoSuchMutant:
        return [-2]
    except TooManyRelations:
        return [-6]
    except TooManyInputs:
        return [-7]


def answers(calls):
    """For each call, in order: how many numbers are answered, then these."""
    bench = Bench()
    reader = Reader(calls)
    answered = []
    while not reader.is_done():
        answer = answer_or_refusal(bench, reader)
        answered.append(len(answer))
        answered.extend(answer)
    return answered
