"""The fewest relations that see all that's seen, and inputs that see most, one after the other."""


def shares_one(chosen, relations):
    return any([relation in chosen for relation in relations])


def sees_all(chosen, seers_of_each):
    return all([shares_one(chosen, relations) for relations in seers_of_each])


def sets_of(size, relations):
    """All sets of so many of the rising relations, in order by their first one, then by their second one, and so on."""
    chosen = [[]]
    for place in range(size):
        chosen = larger_by_one(chosen, relations)
    return chosen


def larger_by_one(sets, relations):
    larger = []
    for one in sets:
        for relation in relations:
            if not one or relation > one[-1]:
                larger.append(one + [relation])
    return larger


def least_sets(good, seers_of_each):
    """seers_of_each: for each seen mutant the good relations that see it."""
    size = 0
    found = []
    # This ends: the set of all good relations sees all that's seen.
    while not found:
        found = [chosen for chosen in sets_of(size, good) if sees_all(chosen, seers_of_each)]
        size = size + 1
    return found


def input_in_most(inputs_of_each):
    """Of those in as many lists the least one."""
    how_often = {}
    for inputs in inputs_of_each:
        for number in inputs:
            how_often[number] = how_often.get(number, 0) + 1
    most = max(how_often.values())
    return min([number for number in how_often if how_often[number] == most])


def chain_of(inputs_of_each):
    """inputs_of_each: for each seen mutant the inputs that see it."""
    chain = []
    left = inputs_of_each
    while left:
        best = input_in_most(left)
        chain.append(best)
        left = [inputs for inputs in left if best not in inputs]
    return chain
