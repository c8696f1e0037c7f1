"""The calls on one object, as one list of numbers."""

from mutantrows.bounds import Bound, how_many_inputs, inputs_of
from mutantrows.fewest import chain_of, least_sets
from mutantrows.mutants import mutants_of
from mutantrows.reading import (
    NotWhole, Reader, bound_from, outcome_as_numbers, program_as_numbers, program_from, relation_from, with_count,
)
from mutantrows.sight import (
    Sight, inputs_that_see, is_alike, is_seen, mutants_seen_by_one_alone, seers, unseen_mutants,
)

MOST_RELATIONS = 6
MOST_INPUTS_TO_LOOK_AT = 40


class NoSuchMutant(ValueError):
    """The program has no mutant of this number."""


class NoSuchRelation(ValueError):
    """There is no relation of this number."""


class TooManyRelations(ValueError):
    """There are as many relations already as there may be."""


class TooManyInputs(ValueError):
    """The bound has more inputs than relations are looked at."""


class Bench:
    """The object that the calls are made on.

    sight is None, or what was looked at of the program, the relations and the bound as they are now.
    """

    def __init__(self):
        self.program = []
        self.relations = []
        self.bound = Bound(0, 0, 0)
        self.sight = None


def take_program(bench, steps):
    bench.program = program_from(steps)
    bench.sight = None
    return [len(bench.program), len(mutants_of(bench.program))]


def take_relation(bench, parts):
    relation = relation_from(parts)
    if len(bench.relations) >= MOST_RELATIONS:
        raise TooManyRelations("there are 6 relations already")
    bench.relations.append(relation)
    bench.sight = None
    return [len(bench.relations) - 1]


def clear_relations(bench):
    bench.relations = []
    bench.sight = None
    return [0]


def take_bound(bench, ends):
    bench.bound = bound_from(ends)
    bench.sight = None
    return [how_many_inputs(bench.bound)]


def tell_mutants(bench):
    mutants = mutants_of(bench.program)
    answer = [len(mutants)]
    for mutant in mutants:
        answer.extend([mutant.way, mutant.place])
    return answer


def must_be_mutant(number, mutants):
    if number < 0 or number >= len(mutants):
        raise NoSuchMutant("there is no such mutant")


def tell_mutant(bench, number):
    mutants = mutants_of(bench.program)
    must_be_mutant(number, mutants)
    mutant = mutants[number]
    return [mutant.way, mutant.place] + program_as_numbers(mutant.program)


def sight_of(bench):
    if how_many_inputs(bench.bound) > MOST_INPUTS_TO_LOOK_AT:
        raise TooManyInputs("the bound has more than 40 inputs")
    if bench.sight is None:
        bench.sight = Sight(bench.program, bench.relations, inputs_of(bench.bound))
    return bench.sight


def tell_good(bench):
    return with_count(sight_of(bench).good)


def tell_seen(bench, number):
    sight = sight_of(bench)
    must_be_mutant(number, sight.mutants)
    look = sight.look_at(number)
    return [1 if is_alike(look) else 0] + with_count(seers(look))


def tell_alone(bench, number):
    sight = sight_of(bench)
    if number < 0 or number >= len(sight.relations):
        raise NoSuchRelation("there is no such relation")
    return with_count(mutants_seen_by_one_alone(sight, number))


def tell_least(bench):
    sight = sight_of(bench)
    sets = least_sets(sight.good, [seers(look) for look in sight.all_looks() if is_seen(look)])
    return [len(sets)] + with_count(sets[0])


def tell_unseen(bench):
    return with_count(unseen_mutants(sight_of(bench)))


def tell_show(bench, number):
    sight = sight_of(bench)
    must_be_mutant(number, sight.mutants)
    look = sight.look_at(number)
    if is_alike(look):
        return [0]
    first = look.different[0]
    outcomes = outcome_as_numbers(sight.outcomes[first]) + outcome_as_numbers(look.outcomes[first])
    return [1, len(look.different), first] + with_count(sight.rows[first]) + outcomes


def tell_chain(bench):
    looks = sight_of(bench).all_looks()
    return with_count(chain_of([inputs_that_see(look) for look in looks if is_seen(look)]))


def tell_counts(bench):
    sight = sight_of(bench)
    looks = sight.all_looks()
    seen = [look for look in looks if is_seen(look)]
    alike = [look for look in looks if is_alike(look)]
    return [len(looks), len(seen), len(unseen_mutants(sight)), len(alike)]


# The keys are the calls' numbers, as the document tells them.
CALLS_WITH_A_LIST = {0: take_program, 1: take_relation, 3: take_bound}
CALLS_WITH_A_NUMBER = {5: tell_mutant, 7: tell_seen, 8: tell_alone, 11: tell_show}
PLAIN_CALLS = {
    2: clear_relations,
    4: tell_mutants,
    6: tell_good,
    9: tell_least,
    10: tell_unseen,
    12: tell_chain,
    13: tell_counts,
}


def carry_out(bench, reader):
    call = reader.next_number()
    if call in CALLS_WITH_A_LIST:
        return CALLS_WITH_A_LIST[call](bench, reader.next_list())
    if call in CALLS_WITH_A_NUMBER:
        return CALLS_WITH_A_NUMBER[call](bench, reader.next_number())
    return PLAIN_CALLS[call](bench)


def answer_or_refusal(bench, reader):
    try:
        return carry_out(bench, reader)
    except NotWhole:
        return [-1]
    except NoSuchMutant:
        return [-2]
    except NoSuchRelation:
        return [-3]
    except TooManyRelations:
        return [-6]
    except TooManyInputs:
        return [-7]


def answers(calls):
    """For each call, in order: how many numbers are answered, then these."""
    bench = Bench()
    reader = Reader(calls)
    answered = []
    while not reader.is_done():
        answer = answer_or_refusal(bench, reader)
        answered.append(len(answer))
        answered.extend(answer)
    return answered
