"""Each of seen, alone, least, unseen, show, chain and counts, in each state that the object may be in."""

import unittest

from tests.helper import (
    alone, answers_to, bound, chain, counts, least, probe, program, relation, seen, show, unseen,
)

SORT = program("sort, take 2")
LINE = program("add 1, times 2")
TURNED = relation("any", "reverse", "equal", "")
NOT_GOOD = relation("any", "", "equal", "twice")

# sort, take 2 at up to two numbers from 0 to 1. Its mutants 0 (take 2) and 1 (reverse, take 2) differ at one input,
# 2 (take 2, sort), 3 (sort) and 4 (sort, take 3) nowhere, 5 (sort, drop 2) at all but [].
SORT_SHOWN = [
    [1, 1, 5, 2, 1, 0, 1, 2, 0, 1, 1, 2, 1, 0],
    [1, 1, 4, 2, 0, 1, 1, 2, 0, 1, 1, 2, 1, 0],
    [0], [0], [0],
    [1, 6, 1, 1, 0, 1, 1, 0, 1, 0],
]
SORT_ALIKE = [0, 0, 1, 1, 1, 0]


class States(unittest.TestCase):
    def check(self, setup, mutants, relations, expected):
        """Of seen and show each mutant and the first that isn't there, of alone each relation likewise."""
        calls = {
            "seen": [seen(number) for number in range(mutants + 1)],
            "alone": [alone(number) for number in range(relations + 1)],
            "least": [least()],
            "unseen": [unseen()],
            "show": [show(number) for number in range(mutants + 1)],
            "chain": [chain()],
            "counts": [counts()],
        }
        for name, asked in calls.items():
            self.assertEqual(answers_to(setup, asked), expected[name], name)

    def test_a_new_object(self):
        self.check((), 0, 0, {
            "seen": [[-2]], "alone": [[-3]], "least": [[1, 0]], "unseen": [[0]], "show": [[-2]], "chain": [[0]],
            "counts": [[0, 0, 0, 0]],
        })

    def test_no_steps(self):
        self.check((program(""), TURNED, relation("any", "", "equal", ""), bound(2, 0, 1)), 0, 2, {
            "seen": [[-2]], "alone": [[0], [0], [-3]], "least": [[1, 0]], "unseen": [[0]], "show": [[-2]],
            "chain": [[0]], "counts": [[0, 0, 0, 0]],
        })

    def test_no_relation(self):
        self.check((SORT, bound(2, 0, 1)), 6, 0, {
            "seen": [[alike, 0] for alike in SORT_ALIKE] + [[-2]],
            "alone": [[-3]], "least": [[1, 0]], "unseen": [[3, 0, 1, 5]],
            "show": SORT_SHOWN + [[-2]], "chain": [[0]], "counts": [[6, 0, 3, 3]],
        })

    def test_no_good_relation(self):
        self.check((SORT, NOT_GOOD, NOT_GOOD, bound(2, 0, 1)), 6, 2, {
            "seen": [[alike, 0] for alike in SORT_ALIKE] + [[-2]],
            "alone": [[0], [0], [-3]], "least": [[1, 0]], "unseen": [[3, 0, 1, 5]],
            "show": SORT_SHOWN + [[-2]], "chain": [[0]], "counts": [[6, 0, 3, 3]],
        })

    def test_seen_unseen_and_alike_mutants(self):
        # What's turned round: 0 and 1 break it at [0 1] and [1 0], the inputs 4 and 5.
        self.check((SORT, NOT_GOOD, TURNED, bound(2, 0, 1)), 6, 2, {
            "seen": [[0, 1, 1], [0, 1, 1], [1, 0], [1, 0], [1, 0], [0, 0], [-2]],
            "alone": [[0], [2, 0, 1], [-3]], "least": [[1, 1, 1]], "unseen": [[1, 5]],
            "show": SORT_SHOWN + [[-2]], "chain": [[1, 4]], "counts": [[6, 2, 1, 3]],
        })

    def test_relations_that_are_off_at_some_inputs(self):
        # The first one is off at each input, the second one at [0 0] and [1 1], the third one at [1 0].
        rising = relation("rising", "reverse", "equal", "")
        different = relation("different", "reverse", "equal", "")
        long = relation("long 3", "reverse", "equal", "")
        self.check((SORT, long, different, rising, bound(2, 0, 1)), 6, 3, {
            "seen": [[0, 2, 1, 2], [0, 2, 1, 2], [1, 0], [1, 0], [1, 0], [0, 0], [-2]],
            "alone": [[0], [0], [0], [-3]], "least": [[2, 1, 1]], "unseen": [[1, 5]],
            "show": SORT_SHOWN + [[-2]], "chain": [[1, 4]], "counts": [[6, 2, 1, 3]],
        })

    def test_relations_that_are_off_by_a_run_beyond(self):
        # Of [x] the program makes 2x + 2. The first one is off but at [] and one number, the second one at [].
        first = probe(0, "most", 2, at_most=1)  # seen: 1 and 5, at 0 and 1
        second = probe(-1, "equal", 0, "filled")  # seen: 0, 1, 2 and 3, from 1 on
        never = relation("filled", "times 99, times 99, times 99, times 99", "equal", "")
        self.check((LINE, first, never, second, bound(2, 1, 1)), 7, 3, {
            "seen": [[0, 1, 2], [0, 2, 0, 2], [0, 1, 2], [0, 1, 2], [0, 0], [0, 1, 0], [0, 0], [-2]],
            "alone": [[1, 5], [0], [3, 0, 2, 3], [-3]], "least": [[1, 2, 0, 2]], "unseen": [[2, 4, 6]],
            "show": [[1, 2, 1, 1, 1, 1, 1, 4, 1, 1, made] for made in (2, 6, 0, 3, 2, 6, -4)] + [[-2]],
            "chain": [[1, 1]], "counts": [[7, 5, 2, 0]],
        })

    def test_most_mutants_or_all_are_alike(self):
        self.check((SORT, TURNED, bound(1, 0, 1)), 6, 1, {
            "seen": [[1, 0]] * 5 + [[0, 0], [-2]],
            "alone": [[0], [-3]], "least": [[1, 0]], "unseen": [[1, 5]],
            "show": [[0]] * 5 + [[1, 2, 1, 1, 0, 1, 1, 0, 1, 0], [-2]], "chain": [[0]], "counts": [[6, 0, 1, 5]],
        })
        self.check((SORT, TURNED), 6, 1, {
            "seen": [[1, 0]] * 6 + [[-2]],
            "alone": [[0], [-3]], "least": [[1, 0]], "unseen": [[0]],
            "show": [[0]] * 6 + [[-2]], "chain": [[0]], "counts": [[6, 0, 0, 6]],
        })

    def test_mutants_that_are_alike_and_seen(self):
        self.check((LINE, probe(0, "most", 2)), 7, 1, {
            "seen": [[1, 0], [1, 1, 0], [1, 0], [1, 0], [1, 0], [1, 1, 0], [1, 0], [-2]],
            "alone": [[2, 1, 5], [-3]], "least": [[1, 1, 0]], "unseen": [[0]],
            "show": [[0]] * 7 + [[-2]], "chain": [[1, 0]], "counts": [[7, 2, 0, 7]],
        })
