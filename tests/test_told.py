"""program, relation and bound: which lists are whole ones, and what the object has from then on."""

import unittest

from tests.helper import (
    FARTHEST, STEPS, ask, bound, good, last, mutant, mutants, numbers, parts, program, program_list, relation,
    relation_list,
)

RANGES = {"add": (-99, 99), "times": (-99, 99), "rest": (1, 9), "rotate": (0, 9), "take": (0, 9), "drop": (0, 9),
          "above": (-99, 99)}

SORT_MUTANTS = [2, 0, 0, 1, 0]


class WholeProgram(unittest.TestCase):
    def is_whole(self, handed):
        answer = ask(program_list(handed))[0]
        if answer == [-1]:
            return False
        self.assertEqual(answer[0], handed[0])
        return True

    def test_no_steps(self):
        self.assertEqual(ask(program_list([0])), [[0, 0]])

    def test_eight_steps(self):
        self.assertEqual(ask(program_list([8] + [3] * 8)), [[8, 8]])

    def test_nine_steps(self):
        self.assertEqual(ask(program_list([9] + [3] * 9)), [[-1]])

    def test_the_longest_program(self):
        self.assertEqual(ask(program_list([8] + [0, 99] * 8)), [[8, 24]])

    def test_fewer_than_no_steps(self):
        for many in (-1, -2, -FARTHEST):
            self.assertFalse(self.is_whole([many]))
            self.assertFalse(self.is_whole([many, 3]))

    def test_the_empty_list(self):
        self.assertFalse(self.is_whole([]))

    def test_too_short(self):
        whole = numbers("sort, take 2, add 5, twice")
        self.assertTrue(self.is_whole(whole))
        for length in range(len(whole)):
            self.assertFalse(self.is_whole(whole[:length]), length)

    def test_too_long(self):
        for words in ("", "sort", "take 2", "sort, add 5"):
            self.assertTrue(self.is_whole(numbers(words)))
            for more in (0, 3, 99, -1):
                self.assertFalse(self.is_whole(numbers(words) + [more]), (words, more))

    def test_each_step_at_the_ends_of_its_range(self):
        for name, ends in RANGES.items():
            number = STEPS.index(name)
            self.assertTrue(self.is_whole([1, number, ends[0]]), name)
            self.assertTrue(self.is_whole([1, number, ends[1]]), name)
            self.assertFalse(self.is_whole([1, number, ends[0] - 1]), name)
            self.assertFalse(self.is_whole([1, number, ends[1] + 1]), name)
            self.assertFalse(self.is_whole([1, number, FARTHEST]), name)
            self.assertFalse(self.is_whole([1, number, -FARTHEST]), name)
            self.assertFalse(self.is_whole([1, number]), name)

    def test_steps_without_a_number(self):
        for number, name in enumerate(STEPS):
            if name not in RANGES:
                self.assertTrue(self.is_whole([1, number]), name)
                self.assertFalse(self.is_whole([1, number, 1]), name)

    def test_step_numbers_out_of_range(self):
        for number in (-1, 18, FARTHEST, -FARTHEST):
            self.assertFalse(self.is_whole([1, number]))
            self.assertFalse(self.is_whole([1, number, 1]))

    def test_it_is_the_objects_from_now_on(self):
        self.assertEqual(ask(program("sort"), mutants(), program("abs, abs"), mutants(), program(""), mutants()),
                         [[1, 2], SORT_MUTANTS, [2, 2], [2, 0, 0, 0, 1], [0, 0], [0]])

    def test_relations_and_bound_stay(self):
        self.assertEqual(ask(relation("any", "reverse", "equal", ""), bound(2, 0, 1), good(), program("sort"), good()),
                         [[0], [7], [0], [1, 2], [1, 0]])

    def test_a_refusal_changes_nothing(self):
        for refused in ([], [2, 4], [1, 4, 4], [9] + [3] * 9, [1, 18], [2, 5, 0, 100]):
            self.assertEqual(ask(program("sort"), program_list(refused), mutants(), mutant(1)),
                             [[1, 2], [-1], SORT_MUTANTS, [1, 0, 1, 5]], refused)


class WholeRelation(unittest.TestCase):
    def is_whole(self, handed):
        answer = ask(relation_list(handed))[0]
        self.assertIn(answer, ([0], [-1]))
        return answer == [0]

    def test_conditions(self):
        for number in range(5):
            self.assertTrue(self.is_whole([number, 0, 0, 0]), number)
            self.assertFalse(self.is_whole([number, 0, 0, 0, 0]), number)
        for number in (-1, 6, FARTHEST, -FARTHEST):
            self.assertFalse(self.is_whole([number, 0, 0, 0]), number)
            self.assertFalse(self.is_whole([number, 0, 0, 0, 0]), number)

    def test_the_last_condition_has_k(self):
        self.assertFalse(self.is_whole([5, 0, 0, 0]))
        for k in (0, 9):
            self.assertTrue(self.is_whole([5, k, 0, 0, 0]), k)
        for k in (-1, 10, FARTHEST, -FARTHEST):
            self.assertFalse(self.is_whole([5, k, 0, 0, 0]), k)

    def test_how_outputs_stand(self):
        for stand in range(7):
            self.assertTrue(self.is_whole([0, 0, stand, 0]), stand)
        for stand in (-1, 7, FARTHEST, -FARTHEST):
            self.assertFalse(self.is_whole([0, 0, stand, 0]), stand)

    def test_turnings_are_programs(self):
        eight = [8] + [3] * 8
        nine = [9] + [3] * 9
        self.assertTrue(self.is_whole([0] + eight + [0] + eight))
        self.assertFalse(self.is_whole([0] + nine + [0] + eight))
        self.assertFalse(self.is_whole([0] + eight + [0] + nine))
        self.assertFalse(self.is_whole([0, -1, 0, 0]))
        self.assertFalse(self.is_whole([0, 0, 0, -1]))

    def test_each_turnings_step_at_the_ends_of_its_range(self):
        for name, ends in RANGES.items():
            number = STEPS.index(name)
            for value in (ends[0] - 1, ends[0], ends[1], ends[1] + 1):
                inside = ends[0] <= value <= ends[1]
                self.assertEqual(self.is_whole([0, 1, number, value, 0, 0]), inside, (name, value))
                self.assertEqual(self.is_whole([0, 0, 0, 1, number, value]), inside, (name, value))

    def test_step_numbers_out_of_range(self):
        for number in (-1, 18):
            self.assertFalse(self.is_whole([0, 1, number, 0, 0]))
            self.assertFalse(self.is_whole([0, 0, 0, 1, number]))

    def test_the_longest_relation(self):
        self.assertTrue(self.is_whole([5, 9, 8] + [0, -99] * 8 + [6, 8] + [0, 99] * 8))

    def test_the_empty_list(self):
        self.assertFalse(self.is_whole([]))

    def test_too_short(self):
        whole = parts("long 3", "add 2, sort", "begins", "take 5")
        self.assertTrue(self.is_whole(whole))
        for length in range(len(whole)):
            self.assertFalse(self.is_whole(whole[:length]), length)

    def test_too_long(self):
        whole = parts("long 3", "add 2, sort", "begins", "take 5")
        for more in (0, 1, -1):
            self.assertFalse(self.is_whole(whole + [more]))

    def test_each_stands_behind_the_others(self):
        kept = relation("any", "", "equal", "")
        broken = relation("any", "", "equal", "sum")
        self.assertEqual(ask(kept, broken, kept, broken, broken, kept, good()),
                         [[0], [1], [2], [3], [4], [5], [3, 0, 2, 5]])

    def test_the_seventh_is_refused(self):
        kept = relation("any", "", "equal", "")
        broken = relation("any", "", "equal", "sum")
        self.assertEqual(ask(kept, kept, kept, kept, kept, broken, kept, kept, good())[5:],
                         [[5], [-6], [-6], [5, 0, 1, 2, 3, 4]])

    def test_a_list_that_is_none_is_refused_first(self):
        kept = relation("any", "", "equal", "")
        six = [kept] * 6
        self.assertEqual(last(*six, relation_list([])), [-1])
        self.assertEqual(last(*six, relation_list([6, 0, 0, 0])), [-1])
        self.assertEqual(last(*six, relation_list([0, 0, 0, 0, 0])), [-1])
        self.assertEqual(last(*six, relation_list([0, 0, 0, 0])), [-6])

    def test_a_refusal_changes_nothing(self):
        kept = relation("any", "", "equal", "")
        for refused in ([], [0], [0, 0, 0], [0, 0, 0, 0, 0], [6, 0, 0, 0], [0, 0, 7, 0], [0, 0, 0, 1, 18]):
            self.assertEqual(ask(kept, relation_list(refused), good(), kept, good()),
                             [[0], [-1], [1, 0], [1], [2, 0, 1]], refused)


class WholeBound(unittest.TestCase):
    def test_how_many_inputs(self):
        for ends, many in (((0, 0, 0), 1), ((0, -99, 99), 1), ((1, -99, 99), 200), ((2, 0, 1), 7), ((8, 0, 0), 9),
                           ((8, 99, 99), 9), ((8, -99, -99), 9), ((8, 0, 1), 511), ((3, -1, 1), 40), ((5, 0, 3), 1365),
                           ((6, 0, 2), 1093), ((4, 1, 5), 781), ((1, -3, 0), 5)):
            self.assertEqual(ask(bound(*ends)), [[many]], ends)

    def test_at_most_1500_inputs(self):
        # No bound has just 1500: these are, for each length, the widest that's whole and the next one.
        for length, width, many in ((2, 38, 1483), (3, 11, 1464), (4, 5, 781), (5, 4, 1365), (6, 3, 1093), (7, 2, 255),
                                    (8, 2, 511)):
            self.assertEqual(ask(bound(length, 1, width)), [[many]])
            self.assertEqual(ask(bound(length, 0, width)), [[-1]])
        self.assertEqual(ask(bound(8, -99, 99)), [[-1]])
        self.assertEqual(ask(bound(2, -99, 99)), [[-1]])

    def test_ends_of_the_ranges(self):
        for ends in ((-1, 0, 0), (9, 0, 0), (1, -100, -99), (1, 99, 100), (1, 100, 100), (1, -100, -100), (0, 100, 100),
                     (FARTHEST, 0, 0), (-FARTHEST, 0, 0), (0, -FARTHEST, FARTHEST), (0, 0, FARTHEST)):
            self.assertEqual(ask(bound(*ends)), [[-1]], ends)

    def test_the_first_number_is_not_above_the_second_one(self):
        self.assertEqual(ask(bound(1, 5, 5)), [[2]])
        self.assertEqual(ask(bound(1, 5, 4)), [[-1]])
        self.assertEqual(ask(bound(0, 5, 4)), [[-1]])
        self.assertEqual(ask(bound(0, 99, -99)), [[-1]])

    def test_lists_that_are_too_short_or_too_long(self):
        for ends in ((), (1,), (1, 0), (1, 0, 0, 0), (1, 0, 0, 0, 0, 0, 0, 0, 0, 0)):
            self.assertEqual(ask(bound(*ends)), [[-1]], ends)

    def test_it_is_the_objects_from_now_on(self):
        # Broken at [1] alone.
        told = relation("any", "above 0", "equal", "times 0, above 0")
        self.assertEqual(ask(told, good(), bound(1, 1, 1), good(), bound(1, 0, 0), good(), bound(1, 0, 1), good()),
                         [[0], [1, 0], [2], [0], [2], [1, 0], [3], [0]])

    def test_program_and_relations_stay(self):
        self.assertEqual(ask(program("sort"), relation("any", "reverse", "equal", ""), bound(2, 0, 1), mutants(), good()),
                         [[1, 2], [0], [7], SORT_MUTANTS, [1, 0]])

    def test_a_refusal_changes_nothing(self):
        told = relation("any", "above 0", "equal", "times 0, above 0")
        for refused in ((), (1, 0), (0, 0, 0, 0), (9, 0, 0), (0, 1, 0), (8, -99, 99)):
            self.assertEqual(ask(told, bound(1, 1, 1), bound(*refused), good()), [[0], [2], [-1], [0]], refused)
            self.assertEqual(ask(bound(8, 0, 1), bound(*refused), good()), [[511], [-1], [-7]], refused)
