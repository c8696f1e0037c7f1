"""The document's words once more, slowly and plainly: what the program is held against in whole lines of calls.

Here a program is a list of (word, number), with None for steps without a number; a relation is the four words that
helper.relation takes.
"""

import functools
import itertools
import unittest

from mutantrows.relations import answers
from tests.helper import (
    Frozen, alone, answers_to, ask, bound, chain, counts, good, least, program, relation, seen, show, unseen,
)

LIMIT = 10 ** 6


@functools.lru_cache(maxsize=None)
def read(words):
    steps = []
    for part in words.split(","):
        if part.strip():
            word, *number = part.split()
            steps.append((word, int(number[0]) if number else None))
    return steps


DONE = {
    "add": lambda row, n: [x + n for x in row],
    "times": lambda row, n: [x * n for x in row],
    "rest": lambda row, n: [x - max(n * q for q in range(x // n - 2, x // n + 3) if n * q <= x) for x in row],
    "abs": lambda row, n: [-x if x < 0 else x for x in row],
    "sort": lambda row, n: sorted(row),
    "reverse": lambda row, n: row[::-1],
    "rotate": lambda row, n: [row[(place + n) % len(row)] for place in range(len(row))],
    "take": lambda row, n: [x for place, x in enumerate(row) if place < n],
    "drop": lambda row, n: [x for place, x in enumerate(row) if place >= n],
    "above": lambda row, n: [x for x in row if x > n],
    "once": lambda row, n: list(dict.fromkeys(row)),
    "sum": lambda row, n: [sum(row)],
    "greatest": lambda row, n: sorted(row)[-1:],
    "least": lambda row, n: sorted(row)[:1],
    "count": lambda row, n: [len(row)],
    "steps": lambda row, n: [row[place + 1] - row[place] for place in range(len(row) - 1)],
    "sums": lambda row, n: list(itertools.accumulate(row)),
    "twice": lambda row, n: row * 2,
}


def outcome(steps, row):
    """None, if there's none; of None comes None, too."""
    for word, n in steps if row is not None else ():
        row = DONE[word](row, n)
        if len(row) > 40 or any(not -LIMIT <= x <= LIMIT for x in row):
            return None
    return row


def holds(condition, row):
    word, *number = condition.split()
    return {
        "any": lambda: True,
        "filled": lambda: row != [],
        "rising": lambda: all(row[place] <= row[place + 1] for place in range(len(row) - 1)),
        "unsigned": lambda: min(row, default=0) >= 0,
        "different": lambda: max((row.count(x) for x in row), default=1) == 1,
        "long": lambda: len(row) >= int(number[0]),
    }[word]()


def stands(word, left, right):
    as_many = len(left) == len(right)
    return {
        "equal": lambda: left == right,
        "bag": lambda: all(left.count(x) == right.count(x) for x in left + right),
        "numbers": lambda: all(x in left and x in right for x in left + right),
        "most": lambda: as_many and not any(left[place] > right[place] for place in range(len(left))),
        "least": lambda: as_many and not any(left[place] < right[place] for place in range(len(left))),
        "begins": lambda: any(left == right[:many] for many in range(len(right) + 1)),
        "long": lambda: as_many,
    }[word]()


def breaks(steps, told, row):
    condition, turning, stand, turned = told
    left = outcome(steps, outcome(read(turning), row))
    right = outcome(read(turned), outcome(steps, row))
    return holds(condition, row) and left is not None and right is not None and not stands(stand, left, right)


def is_good(steps, told, rows):
    return not any(breaks(steps, told, row) for row in rows)


def rows_of(length, low, high):
    return [list(row) for many in range(length + 1) for row in itertools.product(range(low, high + 1), repeat=many)]


def others(word, n):
    if word in ("add", "times"):
        return [(word, n + 1), (word, -n)]
    if word == "above":
        return [(word, n + 1), (word, n - 1)]
    if word in ("rest", "rotate"):
        return [(word, n + 1)]
    if word in ("take", "drop"):
        return [(word, n + 1), ("drop" if word == "take" else "take", n)]
    pairs = {"sort": "reverse", "reverse": "sort", "once": "sort", "twice": "once", "sum": "count", "count": "sum",
             "greatest": "least", "least": "greatest", "steps": "sums", "sums": "steps"}
    return [(pairs[word], None)] if word in pairs else []


def mutated(steps):
    made = []
    for place, step in enumerate(steps):
        made.append(steps[:place] + steps[place + 1:])
        made.extend(steps[:place] + [other] + steps[place + 1:] for other in others(*step))
        if place + 1 < len(steps):
            made.append(steps[:place] + [steps[place + 1], step] + steps[place + 2:])
    return [one for one in made if one != steps]


class Told:
    """What each call answers of a case."""

    def __init__(self, words, relations, ends):
        self.steps = read(words)
        self.rows = rows_of(*ends)
        self.mutants = mutated(self.steps)
        self.relations = relations
        self.good_ones = [number for number, one in enumerate(relations) if is_good(self.steps, one, self.rows)]
        # (mutant, relation, input), all that's broken
        self.broken = {(m, r, i) for m, steps in enumerate(self.mutants) for r in self.good_ones
                       for i, row in enumerate(self.rows) if breaks(steps, relations[r], row)}
        self.seen_ones = {m for m, r, i in self.broken}
        self.different = [[i for i, row in enumerate(self.rows) if outcome(steps, row) != outcome(self.steps, row)]
                          for steps in self.mutants]

    def good(self):
        return [len(self.good_ones)] + self.good_ones

    def seers(self, mutant):
        return {r for m, r, i in self.broken if m == mutant}

    def seen(self, mutant):
        return [int(not self.different[mutant]), len(self.seers(mutant))] + sorted(self.seers(mutant))

    def alone(self, relation):
        found = [m for m in range(len(self.mutants)) if self.seers(m) == {relation}]
        return [len(found)] + found

    def least(self):
        sets = [chosen for many in range(7) for chosen in itertools.combinations(self.good_ones, many)
                if all(self.seers(m) & set(chosen) for m in self.seen_ones)]
        fewest = min(len(chosen) for chosen in sets)
        sets = sorted(chosen for chosen in sets if len(chosen) == fewest)
        return [len(sets), fewest] + list(sets[0])

    def unseen(self):
        found = [m for m in range(len(self.mutants)) if self.different[m] and m not in self.seen_ones]
        return [len(found)] + found

    def show(self, mutant):
        places = self.different[mutant]
        if not places:
            return [0]
        answer = [1, len(places), places[0], len(self.rows[places[0]])] + self.rows[places[0]]
        for steps in (self.steps, self.mutants[mutant]):
            made = outcome(steps, self.rows[places[0]])
            answer += [0] if made is None else [1, len(made)] + made
        return answer

    def chain(self):
        chain, left = [], set(self.seen_ones)
        while left:
            sees = [len({m for m, r, i in self.broken if i == place and m in left}) for place in range(len(self.rows))]
            chain.append(max(range(len(self.rows)), key=lambda place: (sees[place], -place)))
            left -= {m for m, r, i in self.broken if i == chain[-1]}
        return [len(chain)] + chain

    def counts(self):
        return [len(self.mutants), len(self.seen_ones), self.unseen()[0], sum(not places for places in self.different)]


PROGRAMS = (
    "sort, take 2", "add 1, times 2", "sums, reverse", "steps, abs, sum", "once, count", "above 0, greatest",
    "rest 3, sort, drop 1", "rotate 1, take 2, sum", "twice, sort, least", "times -1, sort, times -1", "count, add -1",
    "abs, once, sort, reverse, take 2", "drop 1, sums, greatest", "times 99, times 99, times 50, rest 9, above 2",
)

RELATIONS = (
    ("any", "reverse", "equal", ""), ("any", "add 1", "equal", "add 1"), ("any", "sort", "bag", ""),
    ("filled", "add 1", "equal", "add 2"), ("any", "times -1", "long", ""), ("any", "times 2", "equal", "times 2"),
    ("any", "twice", "numbers", ""), ("unsigned", "add 1", "least", ""), ("rising", "reverse", "equal", "reverse"),
    ("any", "take 2", "begins", ""), ("different", "rotate 1", "equal", ""), ("long 2", "drop 1", "most", ""),
    ("any", "add 1", "equal", ""), ("any", "", "equal", "sort"), ("any", "", "equal", "reverse, sort, reverse"),
    ("any", "", "long", "sum"), ("filled", "take 0, sum, add 3", "equal", "take 0, sum, add 8"),
    ("any", "", "equal", "take 2"), ("any", "twice", "equal", "twice"), ("any", "times 99, times 99", "most", "abs"),
    ("any", "", "equal", "abs"), ("any", "reverse", "bag", ""), ("any", "rotate 2", "equal", "rotate 2"),
)

BOUNDS = ((2, 0, 1), (3, -1, 1), (2, -2, 2), (1, -4, 4), (4, 0, 1), (8, 3, 3), (0, 0, 0), (3, 0, 2), (1, 1, 39))


def good_ones_first(words, ends, start):
    """Six relations for this program: up to five good ones, from this one on, and behind them those that aren't."""
    turned = RELATIONS[start % len(RELATIONS):] + RELATIONS[:start % len(RELATIONS)]
    good_ones = [one for one in turned if is_good(read(words), one, rows_of(*ends))]
    bad_ones = [one for one in turned if one not in good_ones]
    return (good_ones[:5] + bad_ones)[:6]


def cases():
    return [(words, good_ones_first(words, ends, place + 7 * number), ends)
            for place, words in enumerate(PROGRAMS) for number, ends in enumerate(BOUNDS)
            if (place + number) % 2 == 0]


def setup(words, relations, ends):
    return [program(words), bound(*ends)] + [relation(*one) for one in relations]


def calls_and_answers(told):
    """All that may be asked of a case, and what the words say to it."""
    pairs = [(good(), told.good()), (least(), told.least()), (unseen(), told.unseen()), (chain(), told.chain()),
             (counts(), told.counts())]
    for number in range(len(told.mutants)):
        pairs.append((seen(number), told.seen(number)))
        pairs.append((show(number), told.show(number)))
    for number in range(len(told.relations)):
        pairs.append((alone(number), told.alone(number)))
    return [call for call, answer in pairs], [answer for call, answer in pairs]


class Cases(unittest.TestCase):
    def test_each_call_answers_what_the_words_say(self):
        met = {"several least sets": 0, "two in a least set": 0, "two in a chain": 0, "alike and seen": 0, "unseen": 0}
        for words, relations, ends in cases():
            told = Told(words, relations, ends)
            calls, expected = calls_and_answers(told)
            self.assertEqual(answers_to(setup(words, relations, ends), calls), expected, (words, relations, ends))
            met["several least sets"] += told.least()[0] > 1
            met["two in a least set"] += told.least()[1] > 1
            met["two in a chain"] += told.chain()[0] > 1
            met["alike and seen"] += any(not told.different[number] for number in told.seen_ones)
            met["unseen"] += told.unseen()[0] > 0
        # Else the cases would be worth less than they seem.
        for name, often in met.items():
            self.assertGreater(often, 0, name)


def eight(words):
    """The same with steps behind it that do nothing, so that there are 8."""
    return ", ".join(([words] if words else []) + ["drop 0"] * (8 - len(read(words))))


class Greatest(unittest.TestCase):
    """8 steps, 6 relations with turnings of 8 steps, 40 inputs, 30 calls."""

    WORDS = "add 2, times 2, sort, take 2, above 1, rotate 1, add -3, reverse"
    RELATIONS = tuple((condition, eight(turning), stand, eight(turned)) for condition, turning, stand, turned in (
        ("any", "reverse", "equal", ""), ("filled", "add 1", "equal", "add 2"), ("any", "", "equal", "sort"),
        ("long 9", "sum", "equal", "sum"), ("any", "add 1", "equal", ""), ("any", "rotate 2", "equal", "rotate 2"),
    ))
    ENDS = (3, -1, 1)

    @classmethod
    def setUpClass(cls):
        cls.told = Told(cls.WORDS, cls.RELATIONS, cls.ENDS)
        calls, cls.expected = calls_and_answers(cls.told)
        ahead = setup(cls.WORDS, cls.RELATIONS, cls.ENDS)
        cls.lines = [[number for call in ahead + calls[start:start + 22] for number in call]
                     for start in range(0, len(calls), 22)]

    def answers_of(self, lines):
        """All that's answered behind the first 8 calls of each line."""
        ahead = [2, 8, 28, 1, 40, 1, 0, 1, 1, 1, 2, 1, 3, 1, 4, 1, 5]
        given = []
        for line in lines:
            answered = answers(line)
            self.assertEqual(answered[:len(ahead)], ahead)
            given.extend(answered[len(ahead):])
        return given

    def expected_of_lines(self):
        return [number for answer in self.expected for number in [len(answer)] + answer]

    def test_it_is_as_great_as_told(self):
        self.assertEqual((len(self.told.steps), len(self.told.relations), len(self.told.rows)), (8, 6, 40))
        for one in self.RELATIONS:
            self.assertEqual((len(read(one[1])), len(read(one[3]))), (8, 8))
        self.assertEqual(self.told.good(), [5, 0, 1, 2, 3, 5])
        self.assertEqual(self.told.counts(), [28, 13, 7, 8])
        self.assertEqual(self.told.least(), [2, 3, 0, 1, 2])

    def test_it_answers_what_the_words_say(self):
        self.assertEqual(self.answers_of(self.lines), self.expected_of_lines())

    def test_the_lists_are_as_they_were(self):
        frozen = [Frozen(line) for line in self.lines]
        self.assertEqual(self.answers_of(frozen), self.expected_of_lines())
        self.assertEqual(frozen, self.lines)

    def test_nothing_is_kept_from_one_time_to_the_next(self):
        first = [answers(line) for line in self.lines]
        for given in first:
            given.append(0)
        for line in reversed(self.lines):
            self.assertEqual(ask(good(), least(), unseen(), chain(), counts(), seen(0), show(0), alone(0)),
                             [[0], [1, 0], [0], [0], [0, 0, 0, 0], [-2], [-2], [-3]])
            answers(line)
        self.assertEqual(self.answers_of(self.lines), self.expected_of_lines())

    def test_thirty_calls_that_change_and_ask(self):
        ahead = setup(self.WORDS, self.RELATIONS, self.ENDS)
        calls = ahead[1:] + [ahead[0], counts(), program("sort"), counts()] * 5 + [ahead[0], chain(), least()]
        self.assertEqual(len(calls), 30)
        short = Told("sort", self.RELATIONS, self.ENDS)
        self.assertEqual(ask(*calls)[7:],
                         [[8, 28], self.told.counts(), [1, 2], short.counts()] * 5
                         + [[8, 28], self.told.chain(), self.told.least()])
