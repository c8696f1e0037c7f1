"""The interface: how calls are handed in and answers are given back."""

import contextlib
import io
import sys
import unittest

from mutantrows.relations import answers
from tests.helper import (
    Frozen, alone, ask, bound, chain, clear, counts, good, least, mutant, mutants, program, relation, seen, show,
    unseen,
)

EXAMPLE = [
    0, 4, 2, 4, 7, 2,
    1, 5, 0, 1, 5, 0, 0,
    1, 8, 0, 1, 0, 1, 0, 1, 0, 1,
    1, 5, 0, 0, 0, 1, 5,
    3, 3, 2, 0, 1,
    4,
    6,
    7, 0,
    7, 2,
    7, 5,
    9,
    8, 0,
    10,
    11, 5,
    12,
    13,
    5, 5,
]

EXAMPLE_ANSWERS = [
    2, 2, 6,
    1, 0,
    1, 1,
    1, 2,
    1, 7,
    13, 6, 0, 0, 1, 0, 2, 0, 0, 1, 1, 1, 1, 1,
    3, 2, 0, 1,
    3, 0, 1, 0,
    2, 1, 0,
    2, 0, 0,
    3, 1, 1, 0,
    3, 2, 0, 1,
    2, 1, 5,
    10, 1, 6, 1, 1, 0, 1, 1, 0, 1, 0,
    2, 1, 4,
    4, 6, 2, 1, 3,
    6, 1, 1, 2, 4, 8, 2,
]


class Example(unittest.TestCase):
    def test_the_documents_example(self):
        self.assertEqual(answers(EXAMPLE), EXAMPLE_ANSWERS)

    def test_the_example_from_words(self):
        self.assertEqual(
            ask(program("sort, take 2"), relation("any", "reverse", "equal", ""),
                relation("any", "add 1", "equal", "add 1"), relation("any", "", "equal", "reverse"),
                bound(2, 0, 1), mutants(), good(), seen(0), seen(2), seen(5), least(), alone(0), unseen(), show(5),
                chain(), counts(), mutant(5)),
            [[2, 6], [0], [1], [2], [7], [6, 0, 0, 1, 0, 2, 0, 0, 1, 1, 1, 1, 1], [2, 0, 1], [0, 1, 0], [1, 0], [0, 0],
             [1, 1, 0], [2, 0, 1], [1, 5], [1, 6, 1, 1, 0, 1, 1, 0, 1, 0], [1, 4], [6, 2, 1, 3], [1, 1, 2, 4, 8, 2]])


class HandedInAndBack(unittest.TestCase):
    def test_the_list_is_as_it_was(self):
        handed = list(EXAMPLE)
        answers(handed)
        self.assertEqual(handed, EXAMPLE)

    def test_the_list_is_not_changed_for_a_while_either(self):
        self.assertEqual(answers(Frozen(EXAMPLE)), EXAMPLE_ANSWERS)

    def test_a_second_time_answers_as_the_first_one(self):
        self.assertEqual(answers(EXAMPLE), answers(EXAMPLE))

    def test_nothing_is_kept_from_one_time_to_the_next(self):
        answers(EXAMPLE)
        self.assertEqual(ask(mutants(), good(), seen(0), alone(0), least(), unseen(), show(0), chain(), counts(),
                             relation("any", "", "equal", "")),
                         [[0], [0], [-2], [-3], [1, 0], [0], [-2], [0], [0, 0, 0, 0], [0]])

    def test_what_was_given_back_may_be_changed(self):
        first = answers(EXAMPLE)
        first.clear()
        self.assertEqual(answers(EXAMPLE), EXAMPLE_ANSWERS)

    def test_a_list_of_whole_numbers_is_given_back(self):
        given = answers(EXAMPLE + [5, 99, 3, 0, 7, 99, 8, 99, 11, 99])
        self.assertIs(type(given), list)
        self.assertEqual({type(number) for number in given}, {int})

    def test_a_refusal_is_one_number(self):
        self.assertEqual(answers([5, 0]), [1, -2])
        self.assertEqual(answers([0, 0]), [1, -1])
        self.assertEqual(answers([7, 0, 8, 0, 11, 0]), [1, -2, 1, -3, 1, -2])
        self.assertEqual(answers([3, 3, 8, 0, 1, 6, 7, 0, 8, 0, 9, 10, 11, 0, 12, 13]), [1, 511] + [1, -7] * 8)

    def test_thirty_calls(self):
        self.assertEqual(answers([2] * 30), [1, 0] * 30)

    def test_calls_go_on_behind_a_refusal(self):
        self.assertEqual(ask(program("sort"), mutant(2), bound(9, 0, 0), mutants()),
                         [[1, 2], [-2], [-1], [2, 0, 0, 1, 0]])

    def test_lists_as_long_as_they_may_be(self):
        self.assertEqual(answers([0, 30] + [0] * 30 + [1, 60] + [0] * 60 + [3, 10] + [0] * 10 + [2]),
                         [1, -1, 1, -1, 1, -1, 1, 0])


class NothingBeside(unittest.TestCase):
    def test_nothing_is_printed(self):
        printed = io.StringIO()
        with contextlib.redirect_stdout(printed), contextlib.redirect_stderr(printed):
            answers(EXAMPLE)
        self.assertEqual(printed.getvalue(), "")

    def test_nothing_is_imported_or_read_by_a_call(self):
        seen = []
        watching = [True]

        def watch(event, details):
            if watching[0] and event in ("import", "open"):
                seen.append((event, details))

        sys.addaudithook(watch)
        answers(EXAMPLE)
        watching[0] = False
        self.assertEqual(seen, [])


class NewObject(unittest.TestCase):
    def test_its_program_has_no_steps(self):
        self.assertEqual(ask(mutants(), mutant(0)), [[0], [-2]])

    def test_it_has_no_relations(self):
        self.assertEqual(ask(good()), [[0]])

    def test_its_bound_has_the_empty_row_alone(self):
        # Broken at each row with numbers, and at the row without them only by the second one.
        self.assertEqual(ask(relation("any", "twice", "equal", ""), relation("any", "sum", "equal", ""), good()),
                         [[0], [1], [1, 0]])


class Clear(unittest.TestCase):
    def test_it_answers_0(self):
        self.assertEqual(ask(clear()), [[0]])

    def test_there_are_no_relations_any_more(self):
        one = relation("any", "", "equal", "")
        self.assertEqual(ask(one, one, good(), clear(), good(), one, good()),
                         [[0], [1], [2, 0, 1], [0], [0], [0], [1, 0]])

    def test_six_more_have_room(self):
        one = relation("any", "", "equal", "")
        self.assertEqual(ask(*([one] * 7 + [clear()] + [one] * 7)),
                         [[0], [1], [2], [3], [4], [5], [-6], [0], [0], [1], [2], [3], [4], [5], [-6]])

    def test_program_and_bound_stay(self):
        self.assertEqual(ask(program("sort"), bound(8, 0, 1), clear(), mutants(), good()),
                         [[1, 2], [511], [0], [2, 0, 0, 1, 0], [-7]])
