"""seen, alone, unseen and counts."""

import unittest

from tests.helper import (
    alone, answers_to, ask, bound, counts, good, last, mutant, numbers, probe, program, relation, seen, show, unseen,
)

# Of [x] this makes 2x + 2, and its seven mutants make:
#   0 times 2             2x          4 add 1               x + 1
#   1 add 2, times 2      2x + 4      5 add 1, times 3      3x + 3
#   2 add -1, times 2     2x - 2      6 add 1, times -2     -2x - 2
#   3 times 2, add 1      2x + 1
LINE = program("add 1, times 2")

AT_MOST_2 = probe(0, "most", 2)  # seen: 1 and 5
AT_LEAST_2 = probe(0, "least", 2)  # seen: 0, 2, 3, 4 and 6
OF_MINUS_1 = probe(-1, "equal", 0)  # seen: 0, 1, 2 and 3
JUST_2 = probe(0, "equal", 2)  # seen: all
JUST_1 = probe(0, "equal", 1)  # not good; broken by 0, 1, 2, 5 and 6
SAME = relation("any", "", "equal", "")  # good; broken by none

THREE = (AT_MOST_2, AT_LEAST_2, OF_MINUS_1)


def seen_of_all(*setup):
    return answers_to((LINE,) + setup, [seen(number) for number in range(7)])


class Seen(unittest.TestCase):
    def test_which_good_relations_see_it(self):
        self.assertEqual(seen_of_all(*THREE, bound(1, 0, 0)),
                         [[0, 2, 1, 2], [0, 2, 0, 2], [0, 2, 1, 2], [0, 2, 1, 2], [0, 1, 1], [0, 1, 0], [0, 1, 1]])

    def test_they_are_rising(self):
        self.assertEqual(seen_of_all(JUST_2, SAME, JUST_2, OF_MINUS_1, JUST_2, AT_MOST_2, bound(1, 0, 0)),
                         [[0, 4, 0, 2, 3, 4], [0, 5, 0, 2, 3, 4, 5], [0, 4, 0, 2, 3, 4], [0, 4, 0, 2, 3, 4],
                          [0, 3, 0, 2, 4], [0, 4, 0, 2, 4, 5], [0, 3, 0, 2, 4]])

    def test_those_not_good_are_left_out(self):
        self.assertEqual(seen_of_all(JUST_1, AT_MOST_2, JUST_1, bound(1, 0, 0)),
                         [[0, 0], [0, 1, 1], [0, 0], [0, 0], [0, 0], [0, 1, 1], [0, 0]])

    def test_alike_ones(self):
        # Of [-1] the program and 4, 5 and 6 make [0].
        self.assertEqual(seen_of_all(bound(1, -1, -1)), [[0, 0]] * 4 + [[1, 0]] * 3)
        self.assertEqual(seen_of_all(OF_MINUS_1, bound(1, -1, -1)), [[0, 1, 0]] * 4 + [[1, 0]] * 3)

    def test_alike_ones_may_be_seen(self):
        # At [] all are alike, but the probe looks at [0].
        self.assertEqual(seen_of_all(AT_MOST_2, bound(0, 0, 0)),
                         [[1, 0], [1, 1, 0], [1, 0], [1, 0], [1, 0], [1, 1, 0], [1, 0]])

    def test_at_some_input(self):
        # On at rows of 2 numbers or more, that is, at the last of these inputs alone.
        late = probe(0, "equal", 2, "long 2")
        self.assertEqual(seen_of_all(late, bound(2, 5, 5)), [[0, 1, 0]] * 7)
        self.assertEqual(seen_of_all(late, bound(1, 5, 5)), [[0, 0]] * 7)
        # On at [] alone.
        early = relation("any", "count, times 99, times 99, times 99, times 2, times 0", "most", "sum, times 0, add 2")
        self.assertEqual(seen_of_all(early, bound(1, 5, 5)),
                         [[0, 0], [0, 1, 0], [0, 0], [0, 0], [0, 0], [0, 1, 0], [0, 0]])

    def test_both_sides_are_the_mutants(self):
        # Left f(x) + 2 = right f(x + 1) holds of all that make 2x and something.
        self.assertEqual(seen_of_all(relation("any", "add 1", "equal", "add 2"), bound(1, 0, 0)),
                         [[0, 0], [0, 0], [0, 0], [0, 0], [0, 1, 0], [0, 1, 0], [0, 1, 0]])


class OffAtTheMutant(unittest.TestCase):
    # 99 * 99 * 99 = 970299; twice as much is beyond.
    CUBE = program("times 99, times 99, times 99, times 1")
    AT_1 = relation("any", "count, times 0, add 1", "equal", "count, times 0, add 1, times 99, times 99, times 99")

    def test_a_mutant_that_is_beyond_is_not_seen_there(self):
        # At the last place: gone, times 2, times -1.
        self.assertEqual(ask(self.CUBE, self.AT_1, bound(1, 1, 1), good(), counts())[3:], [[1, 0], [13, 10, 1, 2]])
        told = answers_to((self.CUBE, self.AT_1, bound(1, 1, 1)), [seen(number) for number in range(13)])
        self.assertEqual(told[10:], [[1, 0], [0, 0], [0, 1, 0]])
        self.assertEqual(last(self.CUBE, self.AT_1, bound(1, 1, 1), unseen()), [1, 11])

    def test_it_is_seen_where_it_is_not_beyond(self):
        # The mutant times 99, times 99, times 2 makes 999702 of 51, and nothing of 52.
        told = relation("filled", "", "most", "count, times 0, add 53, times 99, times 99")
        setup = (program("times 99, times 99, times 1"), told)
        self.assertEqual(last(*setup, bound(1, 51, 51), seen(8)), [0, 1, 0])
        self.assertEqual(last(*setup, bound(1, 51, 52), seen(8)), [0, 1, 0])
        self.assertEqual(last(*setup, bound(1, 52, 52), seen(8)), [0, 0])
        self.assertEqual(ask(*setup, bound(1, 52, 52), mutant(8))[-1], [1, 2] + numbers("times 99, times 99, times 2"))


class Alone(unittest.TestCase):
    def alone_of_all(self, *relations):
        return answers_to((LINE,) + relations + (bound(1, 0, 0),), [alone(number) for number in range(len(relations))])

    def test_what_no_other_sees(self):
        self.assertEqual(self.alone_of_all(*THREE), [[1, 5], [2, 4, 6], [0]])

    def test_one_relation_alone(self):
        self.assertEqual(self.alone_of_all(JUST_2), [[7, 0, 1, 2, 3, 4, 5, 6]])
        self.assertEqual(self.alone_of_all(SAME), [[0]])

    def test_the_same_twice(self):
        self.assertEqual(self.alone_of_all(JUST_2, JUST_2), [[0], [0]])
        self.assertEqual(self.alone_of_all(AT_MOST_2, AT_MOST_2, AT_LEAST_2), [[0], [0], [5, 0, 2, 3, 4, 6]])

    def test_one_that_is_not_good(self):
        # Only the second one is broken by 0, 2 and 6, but it isn't good.
        self.assertEqual(self.alone_of_all(AT_MOST_2, JUST_1), [[2, 1, 5], [0]])
        self.assertEqual(self.alone_of_all(JUST_1, AT_MOST_2), [[0], [2, 1, 5]])
        self.assertEqual(self.alone_of_all(JUST_1), [[0]])
        self.assertEqual(self.alone_of_all(JUST_1, JUST_2), [[0], [7, 0, 1, 2, 3, 4, 5, 6]])

    def test_alike_ones_too(self):
        self.assertEqual(last(LINE, AT_MOST_2, alone(0)), [2, 1, 5])


class Unseen(unittest.TestCase):
    def test_neither_seen_nor_alike(self):
        self.assertEqual(last(LINE, OF_MINUS_1, bound(1, 0, 0), unseen()), [3, 4, 5, 6])
        self.assertEqual(last(LINE, OF_MINUS_1, bound(1, -1, -1), unseen()), [0])
        self.assertEqual(last(LINE, AT_MOST_2, bound(1, -1, -1), unseen()), [3, 0, 2, 3])
        self.assertEqual(last(LINE, AT_MOST_2, bound(1, -1, 0), unseen()), [5, 0, 2, 3, 4, 6])
        self.assertEqual(last(LINE, JUST_2, bound(1, 0, 0), unseen()), [0])

    def test_what_only_one_not_good_sees_is_unseen(self):
        self.assertEqual(last(LINE, JUST_1, AT_MOST_2, bound(1, 0, 0), unseen()), [5, 0, 2, 3, 4, 6])

    def test_one_difference_is_enough(self):
        # Of [-1] 4, 5 and 6 make what the program makes, of [0] they don't.
        self.assertEqual(last(LINE, bound(1, -1, 0), unseen()), [7, 0, 1, 2, 3, 4, 5, 6])


class Counts(unittest.TestCase):
    def test_seen_unseen_alike(self):
        self.assertEqual(last(LINE, bound(1, 0, 0), counts()), [7, 0, 7, 0])
        self.assertEqual(last(LINE, OF_MINUS_1, bound(1, 0, 0), counts()), [7, 4, 3, 0])
        self.assertEqual(last(LINE, OF_MINUS_1, bound(1, -1, -1), counts()), [7, 4, 0, 3])
        self.assertEqual(last(LINE, AT_MOST_2, bound(1, -1, -1), counts()), [7, 2, 3, 3])
        self.assertEqual(last(LINE, JUST_1, bound(1, 0, 0), counts()), [7, 0, 7, 0])

    def test_one_that_is_alike_and_seen_is_counted_as_both(self):
        self.assertEqual(last(LINE, JUST_2, counts()), [7, 7, 0, 7])
        # take 2 at two numbers or more: its mutants (gone, take 3, drop 2) are all seen, the first two are alike.
        doubled = relation("long 2", "twice", "equal", "")
        self.assertEqual(ask(program("take 2"), doubled, bound(2, 0, 1), counts(), seen(0), seen(1), seen(2), unseen(),
                             show(0), alone(0))[3:],
                         [[3, 3, 0, 2], [1, 1, 0], [1, 1, 0], [0, 1, 0], [0], [0], [3, 0, 1, 2]])

    def test_mutants_like_one_another_are_counted_each(self):
        # sort, sort: gone, reverse first, gone, reverse last. The two gone ones are alike.
        self.assertEqual(last(program("sort, sort"), bound(2, 0, 1), counts()), [4, 0, 1, 3])
