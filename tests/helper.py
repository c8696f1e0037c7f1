"""Makes calls from words, and takes answers apart again."""

from mutantrows.relations import answers

STEPS = ("add", "times", "rest", "abs", "sort", "reverse", "rotate", "take", "drop", "above",
         "once", "sum", "greatest", "least", "count", "steps", "sums", "twice")
CONDITIONS = ("any", "filled", "rising", "unsigned", "different", "long")
STANDS = ("equal", "bag", "numbers", "most", "least", "begins", "long")

FARTHEST = 10 ** 18


def step(words):
    """"take 2" as numbers."""
    parts = words.split()
    return [STEPS.index(parts[0])] + [int(part) for part in parts[1:]]


def steps(words):
    """"sort, take 2" as a list of tuples."""
    return [tuple(step(part)) for part in words.split(",") if part.strip()]


def numbers(words):
    """"sort, take 2" as a program's numbers."""
    told = steps(words)
    return [len(told)] + [number for one in told for number in one]


def parts(condition, turning, stand, turned):
    """A relation's numbers; a condition is "rising" or "long 3"."""
    words = condition.split()
    told = [CONDITIONS.index(words[0])] + [int(word) for word in words[1:]]
    return told + numbers(turning) + [STANDS.index(stand)] + numbers(turned)


def with_list(call, handed):
    return [call, len(handed)] + list(handed)


def program(words):
    return with_list(0, numbers(words))


def program_list(handed):
    return with_list(0, handed)


def relation(condition, turning, stand, turned):
    return with_list(1, parts(condition, turning, stand, turned))


def relation_list(handed):
    return with_list(1, handed)


def clear():
    return [2]


def bound(*ends):
    return with_list(3, ends)


def mutants():
    return [4]


def mutant(number):
    return [5, number]


def good():
    return [6]


def ask(*calls):
    """The answers to these calls, one list each."""
    handed = [number for call in calls for number in call]
    given = answers(handed)
    split = []
    place = 0
    while place < len(given):
        behind = place + 1 + given[place]
        split.append(given[place + 1:behind])
        place = behind
    return split


def last(*calls):
    return ask(*calls)[-1]
