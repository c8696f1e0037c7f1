"""Steps and runs."""

import unittest

from mutantrows.bounds import Bound, inputs_of
from mutantrows.rows import run
from tests.helper import STEPS, steps

OUTCOMES = (
    ("add 3", [1, -5, 0], [4, -2, 3]),
    ("add -99", [1], [-98]),
    ("add 0", [1, 2], [1, 2]),
    ("times -2", [1, -5, 0], [-2, 10, 0]),
    ("times 0", [1, -5], [0, 0]),
    ("rest 3", [7, 6, 0, -1, -3, -7], [1, 0, 0, 2, 0, 2]),
    ("rest 1", [7, -6], [0, 0]),
    ("rest 10", [99, -99], [9, 1]),
    ("abs", [-3, 3, 0], [3, 3, 0]),
    ("sort", [3, -1, 2, 3], [-1, 2, 3, 3]),
    ("reverse", [3, -1, 2], [2, -1, 3]),
    ("rotate 0", [1, 2, 3], [1, 2, 3]),
    ("rotate 1", [1, 2, 3], [2, 3, 1]),
    ("rotate 2", [1, 2, 3], [3, 1, 2]),
    ("rotate 3", [1, 2, 3], [1, 2, 3]),
    ("rotate 8", [1, 2, 3], [3, 1, 2]),
    ("take 2", [5, 6, 7], [5, 6]),
    ("take 0", [5, 6, 7], []),
    ("take 3", [5, 6, 7], [5, 6, 7]),
    ("take 9", [5, 6, 7], [5, 6, 7]),
    ("drop 2", [5, 6, 7], [7]),
    ("drop 0", [5, 6, 7], [5, 6, 7]),
    ("drop 3", [5, 6, 7], []),
    ("drop 9", [5, 6, 7], []),
    ("above 2", [3, 2, 1, 5, -4, 3], [3, 5, 3]),
    ("above -1", [-2, -1, 0], [0]),
    ("once", [3, 1, 3, 2, 1], [3, 1, 2]),
    ("sum", [3, -1, 5], [7]),
    ("greatest", [3, -1, 5, 2], [5]),
    ("greatest", [-3, -1], [-1]),
    ("least", [3, -1, 5], [-1]),
    ("least", [3, 2], [2]),
    ("count", [3, 3, 3], [3]),
    ("steps", [3, 5, 4], [2, -1]),
    ("steps", [3], []),
    ("sums", [3, -5, 4], [3, -2, 2]),
    ("twice", [1, 2], [1, 2, 1, 2]),
    ("", [4, 3], [4, 3]),
    ("sort, take 2", [3, 1, 2], [1, 2]),
    ("take 2, sort", [3, 1, 2], [1, 3]),
    ("add 1, times 2", [3], [8]),
    ("times 2, add 1", [3], [7]),
    ("sum, twice, sums, count", [3, 4], [2]),
)

WITH_A_NUMBER = {"add": "1", "times": "2", "rest": "3", "rotate": "4", "take": "5", "drop": "6", "above": "-7"}


class Steps(unittest.TestCase):
    def test_outcomes(self):
        for words, row, outcome in OUTCOMES:
            self.assertEqual(run(steps(words), row), outcome, (words, row))

    def test_each_step_is_tried(self):
        tried = {words.split()[0] for words, row, outcome in OUTCOMES if words}
        self.assertTrue(set(STEPS) <= tried | {"sort,"})

    def test_a_row_without_numbers(self):
        for name in STEPS:
            words = name + " " + WITH_A_NUMBER.get(name, "")
            self.assertEqual(run(steps(words), []), [0] if name in ("sum", "count") else [], name)

    def test_the_row_is_left_as_it_was(self):
        for words, row, outcome in OUTCOMES:
            before = list(row)
            given = run(steps(words), row)
            given.append(1)
            self.assertEqual(row, before, words)


class Beyond(unittest.TestCase):
    def test_how_many_numbers(self):
        self.assertEqual(run(steps("twice"), [1] * 20), [1] * 40)
        self.assertIsNone(run(steps("twice"), [1] * 21))
        self.assertEqual(run(steps("add 1"), [1] * 40), [2] * 40)
        self.assertIsNone(run(steps("add 1"), [1] * 41))

    def test_how_great_numbers(self):
        self.assertEqual(run(steps("add 1"), [999999]), [1000000])
        self.assertIsNone(run(steps("add 1"), [1000000]))
        self.assertEqual(run(steps("add -1"), [-999999]), [-1000000])
        self.assertIsNone(run(steps("add -1"), [-1000000]))
        self.assertIsNone(run(steps("add 1"), [0, 1000000, 0]))

    def test_a_row_that_comes_back_stays_beyond(self):
        self.assertIsNone(run(steps("add 1, add -1"), [1000000]))
        self.assertIsNone(run(steps("twice, take 1"), [0] * 21))
        self.assertIsNone(run(steps("sums, take 0"), [600000, 600000]))

    def test_only_what_comes_of_a_step_counts(self):
        # On the way to this sum there's 1200000, but that's in no row.
        self.assertEqual(run(steps("sum"), [600000, 600000, -600000]), [600000])


class Inputs(unittest.TestCase):
    def test_shorter_ones_first_then_by_their_numbers(self):
        self.assertEqual(inputs_of(Bound(2, -1, 1)),
                         [[], [-1], [0], [1], [-1, -1], [-1, 0], [-1, 1], [0, -1], [0, 0], [0, 1], [1, -1], [1, 0],
                          [1, 1]])
        self.assertEqual(inputs_of(Bound(3, 4, 5))[7:],
                         [[4, 4, 4], [4, 4, 5], [4, 5, 4], [4, 5, 5], [5, 4, 4], [5, 4, 5], [5, 5, 4], [5, 5, 5]])

    def test_the_row_without_numbers_alone(self):
        self.assertEqual(inputs_of(Bound(0, -99, 99)), [[]])
