"""least: how many least sets there are, and the first one."""

import unittest

from tests.helper import ask, bound, good, last, least, probe, program, relation

# The program of [x] makes 2x + 2; what its seven mutants make is told in test_seen.
LINE = program("add 1, times 2")

ALL = probe(0, "equal", 2)  # seen: 0 1 2 3 4 5 6
A = probe(0, "most", 2)  # seen: 1 5
B = probe(0, "least", 2)  # seen: 0 2 3 4 6
C = probe(-1, "equal", 0)  # seen: 0 1 2 3
D = probe(-2, "most", -2)  # seen: 1 4 6
E = probe(-2, "least", -2)  # seen: 0 2 3 5
ONE = probe(0, "most", 3)  # seen: 1
TWO_SIX = probe(0, "least", 0)  # seen: 2 6
NOT_GOOD = probe(0, "equal", 1)
SEES_NONE = relation("any", "", "equal", "")


def least_of(*relations):
    return last(LINE, *relations, least())


class OneLeastSet(unittest.TestCase):
    def test_of_one_relation(self):
        self.assertEqual(least_of(ALL), [1, 1, 0])
        self.assertEqual(least_of(ONE), [1, 1, 0])
        self.assertEqual(least_of(A, B, C, D, E, ALL), [1, 1, 5])
        self.assertEqual(least_of(A, B, ALL, C, D, E), [1, 1, 2])

    def test_of_two(self):
        self.assertEqual(least_of(A, B), [1, 2, 0, 1])
        self.assertEqual(least_of(ONE, TWO_SIX, A), [1, 2, 1, 2])
        self.assertEqual(least_of(SEES_NONE, ONE, SEES_NONE, TWO_SIX), [1, 2, 1, 3])

    def test_of_three(self):
        # Seen are 0 to 6 but 4: 5 by A alone, 6 by TWO_SIX alone, 0 and 3 by C alone.
        self.assertEqual(least_of(A, SEES_NONE, C, ONE, TWO_SIX), [1, 3, 0, 2, 4])

    def test_the_one_that_sees_most_need_not_be_in_it(self):
        self.assertEqual(least_of(B, D, E), [1, 2, 1, 2])

    def test_only_what_is_seen_has_to_be_seen(self):
        self.assertEqual(least_of(ONE, D), [1, 1, 1])
        self.assertEqual(least_of(D, ONE), [1, 1, 0])


class SeveralLeastSets(unittest.TestCase):
    def test_each_of_one_relation(self):
        self.assertEqual(least_of(ALL, ALL), [2, 1, 0])
        self.assertEqual(least_of(ONE, ALL, TWO_SIX, ALL, B), [2, 1, 1])
        self.assertEqual(least_of(ALL, ALL, ALL, ALL, ALL, ALL), [6, 1, 0])

    def test_in_order_by_the_first_relation(self):
        # A and B see all, D and E do, and no other two of these.
        self.assertEqual(least_of(A, B, D, E), [2, 2, 0, 1])
        self.assertEqual(least_of(A, D, E, B), [2, 2, 0, 3])
        self.assertEqual(least_of(D, A, B, E), [2, 2, 0, 3])
        self.assertEqual(least_of(SEES_NONE, D, A, E, B), [2, 2, 1, 3])

    def test_then_by_the_second_one(self):
        self.assertEqual(least_of(A, ONE, B, B), [2, 2, 0, 2])
        self.assertEqual(least_of(A, B, A, B), [4, 2, 0, 1])
        self.assertEqual(least_of(A, A, B, B, B), [6, 2, 0, 2])
        self.assertEqual(least_of(A, A, A, B, B, B), [9, 2, 0, 3])

    def test_of_three_relations(self):
        self.assertEqual(least_of(A, C, TWO_SIX, A, C, TWO_SIX), [8, 3, 0, 1, 2])
        self.assertEqual(least_of(TWO_SIX, TWO_SIX, C, C, A, A), [8, 3, 0, 2, 4])


class SetsOfGoodOnes(unittest.TestCase):
    def test_those_not_good_are_in_none(self):
        self.assertEqual(least_of(NOT_GOOD, ALL), [1, 1, 1])
        self.assertEqual(least_of(NOT_GOOD, A, NOT_GOOD, B), [1, 2, 1, 3])
        self.assertEqual(least_of(NOT_GOOD, ONE), [1, 1, 1])

    def test_the_bound_tells_which_are_good(self):
        # Broken by the program at rows with numbers alone.
        told = relation("filled", "", "equal", "twice")
        self.assertEqual(ask(LINE, told, ALL, bound(1, 0, 0), least(), good())[4:], [[1, 1, 1], [1, 1]])
        self.assertEqual(ask(LINE, told, ALL, bound(0, 0, 0), least(), good())[4:], [[1, 1, 1], [2, 0, 1]])


class NoneIsSeen(unittest.TestCase):
    """Then the set without relations sees all that's seen, and it's the one least set."""

    def test_no_relation(self):
        self.assertEqual(least_of(), [1, 0])

    def test_no_good_one(self):
        self.assertEqual(least_of(NOT_GOOD), [1, 0])
        self.assertEqual(least_of(NOT_GOOD, NOT_GOOD), [1, 0])

    def test_good_ones_that_see_none(self):
        self.assertEqual(least_of(SEES_NONE), [1, 0])
        self.assertEqual(least_of(*[SEES_NONE] * 6), [1, 0])

    def test_no_mutants(self):
        self.assertEqual(last(least()), [1, 0])
        self.assertEqual(last(SEES_NONE, bound(2, 0, 1), least()), [1, 0])

    def test_off_at_each_input(self):
        self.assertEqual(last(LINE, probe(0, "equal", 2, "long 2"), bound(1, 0, 0), least()), [1, 0])
        self.assertEqual(last(LINE, probe(0, "equal", 2, "long 2"), bound(2, 0, 0), least()), [1, 1, 0])
