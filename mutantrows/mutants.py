"""The mutants of a program, in the order of their numbers."""

GONE = 0
ANOTHER = 1
CHANGED = 2

# For steps without a number of their own: the step that stands in their place.
# abs (3) has none.
IN_PLACE_OF_PLAIN = {4: 5, 5: 4, 10: 4, 17: 10, 11: 14, 14: 11, 12: 13, 13: 12, 15: 16, 16: 15}

ADD_OR_TIMES = (0, 1)
ABOVE = 9
TAKE_OR_DROP = {7: 8, 8: 7}


class Mutant:
    """How a program was changed (GONE, ANOTHER, CHANGED), at which place, and what came of it."""

    def __init__(self, way, place, program):
        self.way = way
        self.place = place
        self.program = program


def steps_in_place_of(step):
    number = step[0]
    if len(step) == 1:
        return [(IN_PLACE_OF_PLAIN[number],)] if number in IN_PLACE_OF_PLAIN else []
    one_more = (number, step[1] + 1)
    if number in ADD_OR_TIMES:
        return [one_more, (number, -step[1])]
    if number == ABOVE:
        return [one_more, (number, step[1] - 1)]
    if number in TAKE_OR_DROP:
        return [one_more, (TAKE_OR_DROP[number], step[1])]
    return [one_more]


def mutants_at(program, place):
    step = program[place]
    before = program[:place]
    behind = program[place + 1:]
    ways = [Mutant(GONE, place, before + behind)]
    for other in steps_in_place_of(step):
        ways.append(Mutant(ANOTHER, place, before + [other] + behind))
    if behind:
        ways.append(Mutant(CHANGED, place, before + [behind[0], step] + behind[1:]))
    return [mutant for mutant in ways if mutant.program != program]


def mutants_of(program):
    mutants = []
    for place in range(len(program)):
        mutants.extend(mutants_at(program, place))
    return mutants
