"""seen, alone, least, unseen, show, chain and counts: what's refused, in which order, and that they change nothing."""

import unittest

from tests.helper import (
    FARTHEST, alone, ask, bound, chain, clear, counts, good, last, least, mutant, mutants, probe, program, relation,
    seen, show, unseen,
)

SORT = program("sort, take 2")  # 6 mutants
TURNED = relation("any", "reverse", "equal", "")
MORE = relation("any", "add 1", "equal", "add 1")
NOT_GOOD = relation("any", "", "equal", "reverse")

# 40 inputs each, and more than 40.
NARROW = ((3, 0, 2), (3, -1, 1), (1, 0, 38), (1, -19, 19))
WIDE = (((1, 0, 39), 41), ((1, -20, 19), 41), ((2, 0, 5), 43), ((5, 0, 1), 63), ((1, -99, 99), 200), ((8, 0, 1), 511),
        ((2, 1, 38), 1483))

PLAIN = (good, least, unseen, chain, counts)


def numbered():
    """Each call that's handed a number, and the first number that's too great for it here."""
    return ((seen, 6), (show, 6), (alone, 3))


class TooManyInputs(unittest.TestCase):
    def test_the_plain_calls(self):
        for call in PLAIN:
            for ends in NARROW:
                self.assertEqual(ask(SORT, TURNED, bound(*ends), call())[2], [40])
                self.assertGreaterEqual(last(SORT, TURNED, bound(*ends), call())[0], 0)
            for ends, many in WIDE:
                self.assertEqual(ask(SORT, TURNED, bound(*ends), call())[2:], [[many], [-7]])
                self.assertEqual(ask(bound(*ends), call()), [[many], [-7]])

    def test_the_calls_with_a_number(self):
        for call, many in numbered():
            for ends in NARROW:
                for number in (0, many - 1):
                    self.assertGreaterEqual(last(SORT, TURNED, MORE, NOT_GOOD, bound(*ends), call(number))[0], 0)
            for ends, inputs in WIDE:
                for number in (0, many - 1):
                    self.assertEqual(ask(SORT, TURNED, MORE, NOT_GOOD, bound(*ends), call(number))[4:],
                                     [[inputs], [-7]])

    def test_it_comes_before_the_other_refusals(self):
        for call, many in numbered():
            for number in (-1, many, FARTHEST, -FARTHEST):
                for ends in NARROW:
                    self.assertLess(last(SORT, TURNED, MORE, NOT_GOOD, bound(*ends), call(number))[0], 0)
                    self.assertNotEqual(last(SORT, TURNED, MORE, NOT_GOOD, bound(*ends), call(number)), [-7])
                for ends, inputs in WIDE:
                    self.assertEqual(last(SORT, TURNED, MORE, NOT_GOOD, bound(*ends), call(number)), [-7])
                    self.assertEqual(last(bound(*ends), call(number)), [-7])


class NoSuchOne(unittest.TestCase):
    def test_no_such_mutant(self):
        for call in (seen, show):
            for ends in NARROW + ((2, 0, 1), (0, 0, 0)):
                for number in (-1, -6, -7, 6, 7, FARTHEST, -FARTHEST):
                    self.assertEqual(last(SORT, TURNED, bound(*ends), call(number)), [-2], (call, number))
                for number in range(6):
                    self.assertGreaterEqual(last(SORT, TURNED, bound(*ends), call(number))[0], 0)

    def test_no_such_relation(self):
        for ends in NARROW + ((2, 0, 1), (0, 0, 0)):
            for number in (-1, -3, -4, 3, 4, 6, FARTHEST, -FARTHEST):
                self.assertEqual(last(SORT, TURNED, MORE, NOT_GOOD, bound(*ends), alone(number)), [-3], number)
            for number in range(3):
                self.assertGreaterEqual(last(SORT, TURNED, MORE, NOT_GOOD, bound(*ends), alone(number))[0], 0)

    def test_none_at_all(self):
        for number in (0, -1, 1, FARTHEST, -FARTHEST):
            self.assertEqual(ask(seen(number), show(number), alone(number)), [[-2], [-2], [-3]])

    def test_mutants_of_this_program(self):
        self.assertEqual(ask(program("sort"), seen(2), show(2), program("sort, take 2"), seen(2), show(2), program(""),
                             seen(0), show(0)),
                         [[1, 2], [-2], [-2], [2, 6], [1, 0], [0], [0, 0], [-2], [-2]])

    def test_relations_that_are_there(self):
        self.assertEqual(ask(alone(0), TURNED, alone(0), alone(1), MORE, alone(1), clear(), alone(0), MORE, alone(0)),
                         [[-3], [0], [0], [-3], [1], [0], [0], [-3], [0], [0]])

    def test_six_relations(self):
        self.assertEqual(ask(*[TURNED] * 7, alone(5), alone(6))[6:], [[-6], [0], [-3]])


class ChangesNothing(unittest.TestCase):
    SETUP = (SORT, TURNED, MORE, NOT_GOOD, bound(2, 0, 1))
    LOOKED = (mutants(), mutant(1), good(), seen(1), alone(0), least(), unseen(), show(5), chain(), counts())
    ANSWERS = [[6, 0, 0, 1, 0, 2, 0, 0, 1, 1, 1, 1, 1], [1, 0, 2, 5, 7, 2], [2, 0, 1], [0, 1, 0], [2, 0, 1], [1, 1, 0],
               [1, 5], [1, 6, 1, 1, 0, 1, 1, 0, 1, 0], [1, 4], [6, 2, 1, 3]]

    def test_what_is_answered_before_and_behind_is_alike(self):
        for call in (seen(0), seen(2), alone(0), alone(2), least(), unseen(), show(5), show(2), chain(), counts(),
                     good(), seen(6), seen(-1), show(FARTHEST), alone(3), alone(-FARTHEST)):
            told = ask(*self.SETUP, *self.LOOKED, call, *self.LOOKED)
            self.assertEqual(told[5:15], self.ANSWERS, call)
            self.assertEqual(told[16:], self.ANSWERS, call)

    def test_each_one_twice(self):
        for call, answer in zip(self.LOOKED, self.ANSWERS):
            self.assertEqual(ask(*self.SETUP, call, call, call)[5:], [answer] * 3)

    def test_in_whatever_order(self):
        for turned in range(len(self.LOOKED)):
            calls = self.LOOKED[turned:] + self.LOOKED[:turned]
            self.assertEqual(ask(*self.SETUP, *calls)[5:], self.ANSWERS[turned:] + self.ANSWERS[:turned])
        self.assertEqual(ask(*self.SETUP, *reversed(self.LOOKED))[5:], self.ANSWERS[::-1])

    def test_the_relations_numbers_go_on(self):
        self.assertEqual(ask(*self.SETUP, *self.LOOKED, TURNED, good())[15:], [[3], [3, 0, 1, 3]])

    def test_a_refusal_by_a_wide_bound(self):
        wide = (bound(8, 0, 1), good(), seen(0), alone(0), least(), unseen(), show(0), chain(), counts())
        told = ask(*self.SETUP, *wide, bound(2, 0, 1), *self.LOOKED)
        self.assertEqual(told[5:14], [[511]] + [[-7]] * 8)
        self.assertEqual(told[15:], self.ANSWERS)


class WhatIsLookedAtIsWhatIsThereNow(unittest.TestCase):
    """Behind each call that changes something, all is answered as if nothing had been asked before."""

    LOOKED = (good(), seen(0), alone(0), least(), unseen(), show(0), chain(), counts())

    def answers_behind(self, *calls):
        return ask(*calls, *self.LOOKED)[len(calls):]

    def check(self, setup, change):
        before = self.answers_behind(*setup)
        told = ask(*setup, *self.LOOKED, *change, *self.LOOKED)
        fresh = self.answers_behind(*setup, *change)
        self.assertEqual(told[len(setup):len(setup) + 8], before)
        self.assertEqual(told[-8:], fresh)
        self.assertNotEqual(before, fresh)

    def test_another_program(self):
        self.check((SORT, TURNED, MORE, bound(2, 0, 1)), (program("reverse"),))
        self.check((SORT, TURNED, MORE, bound(2, 0, 1)), (program("sort, take 2, add 1"),))
        self.check((SORT, TURNED, MORE, bound(2, 0, 1)), (program(""),))

    def test_another_relation(self):
        self.check((SORT, MORE, bound(2, 0, 1)), (TURNED,))
        self.check((SORT, bound(2, 0, 1)), (TURNED,))
        self.check((SORT, TURNED, bound(2, 0, 1)), (TURNED,))

    def test_no_relations_any_more(self):
        self.check((SORT, TURNED, MORE, bound(2, 0, 1)), (clear(),))
        self.check((SORT, TURNED, MORE, bound(2, 0, 1)), (clear(), MORE))

    def test_another_bound(self):
        self.check((SORT, TURNED, bound(2, 0, 1)), (bound(3, 0, 2),))
        self.check((SORT, TURNED, bound(2, 0, 1)), (bound(0, 0, 0),))
        self.check((SORT, TURNED, bound(2, 0, 1)), (bound(1, 0, 39),))
        self.check((SORT, TURNED, bound(1, 0, 39)), (bound(2, 0, 1),))

    def test_what_is_refused_changes_nothing(self):
        setup = (SORT, TURNED, bound(2, 0, 1))
        for refused in ([0, 0], [1, 0], [3, 0], [0, 2, 1, 18], [3, 3, 8, 0, 9]):
            told = ask(*setup, *self.LOOKED, refused, *self.LOOKED)
            self.assertEqual(told[11], [-1])
            self.assertEqual(told[3:11], told[12:])
        six = [probe(0, "equal", 2)] * 6
        told = ask(program("add 1, times 2"), *six, *self.LOOKED, TURNED, *self.LOOKED)
        self.assertEqual(told[15], [-6])
        self.assertEqual(told[7:15], told[16:])
