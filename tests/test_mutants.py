"""mutants and mutant."""

import unittest

from tests.helper import FARTHEST, STEPS, ask, bound, last, mutant, mutants, numbers, program, relation

# What stands in the place of each step, in order.
OTHERS = (
    ("add 5", ("add 6", "add -5")),
    ("add -5", ("add -4", "add 5")),
    ("add 99", ("add 100", "add -99")),
    ("add -99", ("add -98", "add 99")),
    ("add -1", ("add 0", "add 1")),
    ("add 0", ("add 1",)),
    ("times 5", ("times 6", "times -5")),
    ("times 99", ("times 100", "times -99")),
    ("times -99", ("times -98", "times 99")),
    ("times 0", ("times 1",)),
    ("above 5", ("above 6", "above 4")),
    ("above 0", ("above 1", "above -1")),
    ("above 99", ("above 100", "above 98")),
    ("above -99", ("above -98", "above -100")),
    ("rest 1", ("rest 2",)),
    ("rest 9", ("rest 10",)),
    ("rotate 0", ("rotate 1",)),
    ("rotate 9", ("rotate 10",)),
    ("take 0", ("take 1", "drop 0")),
    ("take 9", ("take 10", "drop 9")),
    ("drop 0", ("drop 1", "take 0")),
    ("drop 9", ("drop 10", "take 9")),
    ("sort", ("reverse",)),
    ("reverse", ("sort",)),
    ("once", ("sort",)),
    ("twice", ("once",)),
    ("sum", ("count",)),
    ("count", ("sum",)),
    ("greatest", ("least",)),
    ("least", ("greatest",)),
    ("steps", ("sums",)),
    ("sums", ("steps",)),
    ("abs", ()),
)


def all_of(words):
    """Each mutant's own answer, and what mutants and program answer of them."""
    told = ask(program(words), mutants())
    many = told[0][1]
    each = [ask(program(words), mutant(number))[1] for number in range(many)]
    return told[0], told[1], each


class Mutants(unittest.TestCase):
    def check(self, words, expected):
        """expected: the way, the place and the words of each."""
        told, listed, each = all_of(words)
        self.assertEqual(each, [[way, place] + numbers(mutated) for way, place, mutated in expected], words)
        self.assertEqual(told, [numbers(words)[0], len(expected)], words)
        self.assertEqual(listed, [len(expected)] + [part for one in expected for part in one[:2]], words)
        self.assertEqual(last(program(words), mutant(len(expected))), [-2], words)

    def test_each_step_alone(self):
        for words, others in OTHERS:
            self.check(words, [(0, 0, "")] + [(1, 0, other) for other in others])

    def test_each_step_is_tried(self):
        self.assertEqual({words.split()[0] for words, others in OTHERS}, set(STEPS))

    def test_no_steps(self):
        self.check("", [])

    def test_by_the_step_then_gone_others_changed(self):
        self.check("sort, take 2, abs", [
            (0, 0, "take 2, abs"),
            (1, 0, "reverse, take 2, abs"),
            (2, 0, "take 2, sort, abs"),
            (0, 1, "sort, abs"),
            (1, 1, "sort, take 3, abs"),
            (1, 1, "sort, drop 2, abs"),
            (2, 1, "sort, abs, take 2"),
            (0, 2, "sort, take 2"),
        ])

    def test_changing_like_steps_is_the_program_itself(self):
        self.check("abs, abs", [(0, 0, "abs"), (0, 1, "abs")])
        self.check("take 2, take 2", [
            (0, 0, "take 2"), (1, 0, "take 3, take 2"), (1, 0, "drop 2, take 2"),
            (0, 1, "take 2"), (1, 1, "take 2, take 3"), (1, 1, "take 2, drop 2"),
        ])

    def test_steps_with_other_numbers_are_changed(self):
        self.check("rotate 1, rotate 2", [
            (0, 0, "rotate 2"), (1, 0, "rotate 2, rotate 2"), (2, 0, "rotate 2, rotate 1"),
            (0, 1, "rotate 1"), (1, 1, "rotate 1, rotate 3"),
        ])

    def test_the_other_sign_of_zero_is_the_program_itself(self):
        self.check("add 0, times 0", [
            (0, 0, "times 0"), (1, 0, "add 1, times 0"), (2, 0, "times 0, add 0"),
            (0, 1, "add 0"), (1, 1, "add 0, times 1"),
        ])

    def test_mutants_like_one_another_stay(self):
        self.check("sort, reverse", [
            (0, 0, "reverse"), (1, 0, "reverse, reverse"), (2, 0, "reverse, sort"),
            (0, 1, "sort"), (1, 1, "sort, sort"),
        ])
        self.check("sort, sort", [
            (0, 0, "sort"), (1, 0, "reverse, sort"), (0, 1, "sort"), (1, 1, "sort, reverse"),
        ])

    def test_one_that_does_the_same_is_a_mutant_still(self):
        self.check("abs, sort", [(0, 0, "sort"), (2, 0, "sort, abs"), (0, 1, "abs"), (1, 1, "abs, reverse")])

    def test_most_mutants(self):
        told, listed, each = all_of("add 1, add 2, add 3, add 4, add 5, add 6, add 7, add 8")
        self.assertEqual(told, [8, 31])
        self.assertEqual(listed[0], 31)
        self.assertEqual(len(listed), 63)
        self.assertEqual(listed[-6:], [0, 7, 1, 7, 1, 7])
        self.assertEqual(each[30][:3], [1, 7, 8])

    def test_no_such_mutant(self):
        for number in (-1, -6, -7, 6, 7, FARTHEST, -FARTHEST):
            self.assertEqual(last(program("sort, take 2"), mutant(number)), [-2], number)
        for number in (0, -1, 1):
            self.assertEqual(last(mutant(number)), [-2], number)

    def test_asking_changes_nothing(self):
        self.assertEqual(ask(program("sort"), mutant(1), mutant(5), mutants(), mutant(1), mutants()),
                         [[1, 2], [1, 0, 1, 5], [-2], [2, 0, 0, 1, 0], [1, 0, 1, 5], [2, 0, 0, 1, 0]])

    def test_a_wide_bound_is_no_matter(self):
        self.assertEqual(ask(bound(8, 0, 1), relation("any", "", "equal", ""), program("sort"), mutants(), mutant(0)),
                         [[511], [0], [1, 2], [2, 0, 0, 1, 0], [0, 0, 0]])
