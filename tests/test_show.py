"""show: at which inputs a mutant's outcomes differ from the program's."""

import unittest

from tests.helper import ask, bound, last, mutant, numbers, program, relation, show

CUBE = "times 99, times 99, times 99"  # 970299 times as much


def shown(words, number, *ends):
    return last(program(words), bound(*ends), show(number))


class Outcomes(unittest.TestCase):
    def test_both_have_an_outcome(self):
        # Of [] and [5] add 1 makes [] and [6], its mutants [] and [5], [7], [4].
        self.assertEqual(shown("add 1", 0, 1, 5, 5), [1, 1, 1, 1, 5, 1, 1, 6, 1, 1, 5])
        self.assertEqual(shown("add 1", 1, 1, 5, 5), [1, 1, 1, 1, 5, 1, 1, 6, 1, 1, 7])
        self.assertEqual(shown("add 1", 2, 1, 5, 5), [1, 1, 1, 1, 5, 1, 1, 6, 1, 1, 4])

    def test_rows_of_several_numbers(self):
        # sort gone: [0 -1] is the first of the three that aren't rising.
        self.assertEqual(shown("sort", 0, 2, -1, 1), [1, 3, 7, 2, 0, -1, 1, 2, -1, 0, 1, 2, 0, -1])
        # reverse in its place: [-1 0] comes before.
        self.assertEqual(shown("sort", 1, 2, -1, 1), [1, 3, 5, 2, -1, 0, 1, 2, -1, 0, 1, 2, 0, -1])

    def test_outcomes_of_other_lengths(self):
        self.assertEqual(shown("twice", 0, 1, 7, 7), [1, 1, 1, 1, 7, 1, 2, 7, 7, 1, 1, 7])
        self.assertEqual(shown("drop 0", 2, 1, 7, 7), [1, 1, 1, 1, 7, 1, 1, 7, 1, 0])
        self.assertEqual(shown("take 0", 0, 1, 7, 7), [1, 1, 1, 1, 7, 1, 0, 1, 1, 7])

    def test_the_input_without_numbers(self):
        # sum gone: [] beside [0]. At [0] they're the same.
        self.assertEqual(shown("sum", 0, 1, 0, 0), [1, 1, 0, 0, 1, 1, 0, 1, 0])
        # count in its place: [] and [1] are the same, [0] isn't.
        self.assertEqual(shown("sum", 1, 1, 0, 1), [1, 1, 1, 1, 0, 1, 1, 0, 1, 1, 1])

    def test_at_how_many_inputs(self):
        self.assertEqual(shown("sum", 0, 2, 0, 1)[:3], [1, 5, 0])
        self.assertEqual(shown("sum", 1, 2, 0, 1)[:3], [1, 4, 1])
        self.assertEqual(shown("abs", 0, 3, -1, 1)[:3], [1, 25, 1])
        # At the last input alone.
        self.assertEqual(shown("sum, above 5", 1, 3, 0, 2), [1, 1, 39, 3, 2, 2, 2, 1, 1, 6, 1, 0])

    def test_the_longest_outcomes(self):
        # take 4 is gone: only at five numbers does that matter.
        self.assertEqual(shown("take 4, twice, twice, twice", 0, 5, 0, 0),
                         [1, 1, 5, 5] + [0] * 5 + [1, 32] + [0] * 32 + [1, 40] + [0] * 40)
        self.assertEqual(shown("take 5, twice, twice, twice", 0, 6, 0, 0),
                         [1, 1, 6, 6] + [0] * 6 + [1, 40] + [0] * 40 + [0])


class Beyond(unittest.TestCase):
    def test_the_mutant_has_none(self):
        # times 1 becomes times 2: of [1] that's beyond.
        self.assertEqual(ask(program(CUBE + ", times 1"), mutant(11), bound(1, 1, 1), show(11))[1:],
                         [[1, 3] + numbers(CUBE + ", times 2"), [2], [1, 1, 1, 1, 1, 1, 1, 970299, 0]])

    def test_the_program_has_none(self):
        # The first times 99 is gone.
        self.assertEqual(shown(CUBE + ", times 2", 0, 1, 1, 1), [1, 1, 1, 1, 1, 0, 1, 1, 19602])
        self.assertEqual(shown(CUBE + ", times 2", 0, 1, -1, -1), [1, 1, 1, 1, -1, 0, 1, 1, -19602])

    def test_none_of_both_is_alike(self):
        # times 99 becomes times 100.
        self.assertEqual(shown(CUBE + ", times 2", 1, 1, 1, 1), [0])
        self.assertEqual(shown(CUBE + ", times 2", 1, 1, 0, 1), [0])

    def test_none_of_both_is_not_counted(self):
        # times 50 becomes times 51: at [3] and [4] there's none of both.
        self.assertEqual(shown("times 99, times 99, times 50", 8, 1, 0, 4),
                         [1, 2, 2, 1, 1, 1, 1, 490050, 1, 1, 499851])

    def test_none_is_not_the_row_without_numbers(self):
        # drop 9 makes [] of [970299]; if times 1 becomes times 2 there's none.
        self.assertEqual(shown(CUBE + ", times 1, drop 9", 11, 1, 1, 1), [1, 1, 1, 1, 1, 1, 0, 0])


class Alike(unittest.TestCase):
    def test_at_each_input(self):
        self.assertEqual(shown("sort", 0, 0, 0, 0), [0])
        self.assertEqual(shown("sort", 0, 1, -9, 9), [0])
        self.assertEqual(shown("sort", 0, 2, 0, 0), [0])
        self.assertEqual(shown("sort", 0, 2, 0, 1)[0], 1)

    def test_relations_are_no_matter(self):
        for told in (relation("any", "reverse", "equal", ""), relation("any", "", "equal", "sum"),
                     relation("any", "", "equal", "")):
            self.assertEqual(last(program("sort"), told, bound(2, 0, 1), show(0)),
                             [1, 1, 5, 2, 1, 0, 1, 2, 0, 1, 1, 2, 1, 0])
            self.assertEqual(last(program("sort"), told, bound(1, 0, 1), show(0)), [0])
