"""chain: inputs, one after the other, that see most."""

import unittest

from tests.helper import ask, bound, chain, last, probe, program, relation

# Its mutants: 0 no step, 1 above 6, 2 above 4. Of [6] the program makes [6], of [5] and [4] nothing.
ABOVE = program("above 5")

# Of [x] it makes 2x + 2; what its seven mutants make is told in test_seen.
LINE = program("add 1, times 2")

# The input of number n is the row of n zeros.
NINE = bound(8, 0, 0)


def sees_0(condition="any", at_most=None):
    return probe(4, "equal", None, condition, at_most)


def sees_1(condition="any", at_most=None):
    return probe(6, "equal", 6, condition, at_most)


def sees_0_and_2(condition="any", at_most=None):
    return probe(5, "equal", None, condition, at_most)


def chain_of(*relations):
    return last(ABOVE, *relations, NINE, chain())


class OneInput(unittest.TestCase):
    def test_the_least_of_those_that_see_as_many(self):
        self.assertEqual(chain_of(sees_1()), [1, 0])
        self.assertEqual(chain_of(sees_1("filled")), [1, 1])
        self.assertEqual(chain_of(sees_1("long 4")), [1, 4])
        self.assertEqual(chain_of(sees_1("long 8")), [1, 8])

    def test_the_one_that_sees_most(self):
        # At 0 and 1: 1; from 2 on 0, 1 and 2.
        self.assertEqual(chain_of(sees_1(), sees_0_and_2("long 2")), [1, 2])
        # At 0: 0; from 1 on also 2; from 5 on also 1.
        self.assertEqual(chain_of(sees_0(), sees_0_and_2("filled"), sees_1("long 5")), [1, 5])

    def test_one_where_no_relation_sees_all(self):
        self.assertEqual(chain_of(sees_0_and_2(), sees_1()), [1, 0])


class SeveralInputs(unittest.TestCase):
    def test_rising(self):
        # At 0 to 3: 0 and 2; from 4 on: 1.
        self.assertEqual(chain_of(sees_0_and_2(at_most=3), sees_1("long 4")), [2, 0, 4])

    def test_the_chains_order_is_not_the_numbers_one(self):
        # At 2 and 3: 1; from 6 on: 0 and 2.
        self.assertEqual(chain_of(sees_1("long 2", 3), sees_0_and_2("long 6")), [2, 6, 2])

    def test_ties_at_the_first_one(self):
        # At 0 and 1: 0; at 2 and 3: 0 and 1; at 4: none; from 5 on: 0 and 2.
        self.assertEqual(chain_of(sees_0(at_most=3), sees_1("long 2", 3), sees_0_and_2("long 5")), [2, 2, 5])

    def test_only_mutants_that_none_in_the_chain_sees_yet_count(self):
        # At 0 and 1: 0, 2, 3, 4 and 6; at 2 to 4: 0, 1, 2 and 3; from 5 on: 1 and 5. Behind 0 there are 1 and 5 left.
        self.assertEqual(last(LINE, probe(0, "least", 2, at_most=1), probe(-1, "equal", 0, "long 2", 4),
                              probe(0, "most", 2, "long 5"), NINE, chain()), [2, 0, 5])

    def test_three_inputs(self):
        # At 0 and 1: 1, 4 and 6; at 3 and 4: 1 and 5; from 6 on: 0, 1, 2 and 3.
        self.assertEqual(last(LINE, probe(-2, "most", -2, at_most=1), probe(0, "most", 2, "long 3", 4),
                              probe(-1, "equal", 0, "long 6"), NINE, chain()), [3, 6, 0, 3])

    def test_most_of_those_left_not_the_least_number(self):
        # At 0 to 2: 1 and 5; at 3 and 4: 1, 4 and 6; from 6 on: 0, 1, 2 and 3. Behind 6 the others are left: at 0 to 2
        # there's 5, at 3 and 4 there are 4 and 6.
        self.assertEqual(last(LINE, probe(0, "most", 2, at_most=2), probe(-2, "most", -2, "long 3", 4),
                              probe(-1, "equal", 0, "long 6"), NINE, chain()), [3, 6, 3, 0])


class EachMutantOnce(unittest.TestCase):
    def test_two_relations_broken_at_one_input_count_once(self):
        # At 0 to 3 mutant 0 breaks three relations; from 5 on there are two mutants, 0 and 2.
        self.assertEqual(chain_of(sees_0(at_most=3), sees_0(at_most=3), sees_0(at_most=3), sees_0_and_2("long 5")),
                         [1, 5])


class GoodOnes(unittest.TestCase):
    def test_those_not_good_do_not_count(self):
        not_good = probe(6, "equal", None)
        self.assertEqual(chain_of(not_good), [0])
        self.assertEqual(chain_of(not_good, sees_1("long 2")), [1, 2])

    def test_the_condition_and_the_bound(self):
        self.assertEqual(last(ABOVE, sees_1("long 2"), bound(1, 0, 0), chain()), [0])
        self.assertEqual(last(ABOVE, sees_1("long 2"), bound(2, 0, 1), chain()), [1, 3])
        # No number below 0: [-1] and [-1 -1] are off.
        self.assertEqual(last(ABOVE, sees_1("unsigned"), bound(1, -1, 0), chain()), [1, 0])
        # Of rows of two numbers the input's turning makes [6], of others [8].
        for condition, first in (("any", 3), ("rising", 3), ("different", 4)):
            told = relation(condition, "drop 1, count, times -2, add 8", "long", "sum")
            self.assertEqual(last(ABOVE, told, bound(2, 0, 1), chain()), [1, first], condition)


class NoneIsSeen(unittest.TestCase):
    def test_no_input(self):
        same = relation("any", "", "equal", "")
        self.assertEqual(ask(chain(), ABOVE, chain(), same, chain(), NINE, chain()),
                         [[0], [1, 3], [0], [0], [0], [9], [0]])
