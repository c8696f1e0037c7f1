"""What the good relations see of a program's mutants, at the inputs of a bound."""

from mutantrows.mutants import mutants_of
from mutantrows.rows import run
from mutantrows.sides import is_broken, is_good


class Look:
    """One mutant: its outcomes, at which inputs they differ from the program's, and where it breaks what.

    broken_at has, for each good relation that sees the mutant, the inputs at which the mutant breaks it.
    """

    def __init__(self, outcomes, different, broken_at):
        self.outcomes = outcomes
        self.different = different
        self.broken_at = broken_at


class Sight:
    """A program, its mutants, relations and inputs; relations, mutants and inputs are told by their numbers."""

    def __init__(self, program, relations, rows):
        self.rows = rows
        self.relations = relations
        self.mutants = mutants_of(program)
        self.outcomes = outcomes_of(program, rows)
        self.good = [number for number, one in enumerate(relations) if is_good(one, program, rows)]
        self.looks = {}

    def look_at(self, mutant):
        # Each mutant once, and only if it's asked for: the runs take far longer than all else.
        if mutant not in self.looks:
            self.looks[mutant] = new_look(self, self.mutants[mutant].program)
        return self.looks[mutant]

    def all_looks(self):
        return [self.look_at(mutant) for mutant in range(len(self.mutants))]


def outcomes_of(program, rows):
    return [run(program, row) for row in rows]


def new_look(sight, program):
    outcomes = outcomes_of(program, sight.rows)
    different = [place for place in range(len(outcomes)) if outcomes[place] != sight.outcomes[place]]
    broken_at = {}
    for relation in sight.good:
        places = where_broken(sight.relations[relation], program, sight.rows)
        if places:
            broken_at[relation] = places
    return Look(outcomes, different, broken_at)


def where_broken(relation, program, rows):
    return [place for place, row in enumerate(rows) if is_broken(relation, program, row)]


def is_alike(look):
    return len(look.different) == 0


def seers(look):
    """The good relations that see the mutant, rising as the good ones are."""
    return list(look.broken_at)


def is_seen(look):
    return len(look.broken_at) > 0


def is_unseen(look):
    # An alike mutant may be seen, too: a turned input need not be an input of the bound.
    return not is_seen(look) and not is_alike(look)


def inputs_that_see(look):
    """Each once, however many relations are broken there."""
    places = []
    for relation in look.broken_at:
        places.extend(look.broken_at[relation])
    return sorted(set(places))


def mutants_seen_by_one_alone(sight, relation):
    return [mutant for mutant, look in enumerate(sight.all_looks()) if seers(look) == [relation]]


def unseen_mutants(sight):
    return [mutant for mutant, look in enumerate(sight.all_looks()) if is_unseen(look)]
