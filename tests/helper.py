"""Makes calls from words, and takes answers apart again."""

from mutantrows.relations import answers

STEPS = ("add", "times", "rest", "abs", "sort", "reverse", "rotate", "take", "drop", "above",
         "once", "sum", "greatest", "least", "count", "steps", "sums", "twice")
CONDITIONS = ("any", "filled", "rising", "unsigned", "different", "long")
STANDS = ("equal", "bag", "numbers", "most", "least", "begins", "long")

FARTHEST = 10 ** 18


def step(words):
    """"take 2" as numbers."""
    parts = words.split()
    return [STEPS.index(parts[0])] + [int(part) for part in parts[1:]]


def steps(words):
    """"sort, take 2" as a list of tuples."""
    return [tuple(step(part)) for part in words.split(",") if part.strip()]


def numbers(words):
    """"sort, take 2" as a program's numbers."""
    told = steps(words)
    return [len(told)] + [number for one in told for number in one]


def parts(condition, turning, stand, turned):
    """A relation's numbers; a condition is "rising" or "long 3"."""
    words = condition.split()
    told = [CONDITIONS.index(words[0])] + [int(word) for word in words[1:]]
    return told + numbers(turning) + [STANDS.index(stand)] + numbers(turned)


def with_list(call, handed):
    return [call, len(handed)] + list(handed)


def program(words):
    return with_list(0, numbers(words))


def program_list(handed):
    return with_list(0, handed)


def relation(condition, turning, stand, turned):
    return with_list(1, parts(condition, turning, stand, turned))


def relation_list(handed):
    return with_list(1, handed)


def clear():
    return [2]


def bound(*ends):
    return with_list(3, ends)


def mutants():
    return [4]


def mutant(number):
    return [5, number]


def good():
    return [6]


def seen(number):
    return [7, number]


def alone(number):
    return [8, number]


def least():
    return [9]


def unseen():
    return [10]


def show(number):
    return [11, number]


def chain():
    return [12]


def counts():
    return [13]


def ask(*calls):
    """The answers to these calls, one list each."""
    handed = [number for call in calls for number in call]
    given = answers(handed)
    split = []
    place = 0
    while place < len(given):
        behind = place + 1 + given[place]
        split.append(given[place + 1:behind])
        place = behind
    return split


def last(*calls):
    return ask(*calls)[-1]


def answers_to(setup, calls):
    """Each call's answer behind the setup, in lines of at most 30 calls."""
    room = 30 - len(setup)
    given = []
    for start in range(0, len(calls), room):
        given.extend(ask(*setup, *calls[start:start + room])[len(setup):])
    return given


def probe(given, stand, expected, condition="any", at_most=None):
    """The relation that what the program makes of [given] stands so to [expected], or to [] if that's None.

    It's on at each input, whatever its numbers are, but for the condition, and but for inputs of more than at_most
    numbers (1 to 7): their count is beyond when it's multiplied.
    """
    cut = f"times 99, times 99, times {min(99, 10 ** 6 // (99 * 99 * at_most))}, " if at_most else ""
    wanted = "take 0" if expected is None else f"count, times 0, add {expected}"
    return relation(condition, f"count, {cut}times 0, add {given}", stand, wanted)


class Frozen(list):
    """A list that can't be changed, not for a while either."""

    def refuse(self, *args):
        raise AssertionError("changed")

    __setitem__ = __delitem__ = __iadd__ = __imul__ = append = extend = insert = refuse
    pop = remove = clear = sort = reverse = refuse
