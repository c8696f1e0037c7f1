"""good: which relations are good, and when it's refused."""

import unittest

from tests.helper import STEPS, ask, bound, clear, good, last, program, relation

MILLION = "times 10, times 10, times 10, times 10, times 10, times 10"


def is_good(words, told, *ends):
    answer = last(program(words), relation(*told), bound(*ends), good())
    return {(1, 0): True, (0,): False}[tuple(answer)]


class Good(unittest.TestCase):
    def assert_good(self, words, told, *ends):
        self.assertTrue(is_good(words, told, *ends), (words, told, ends))

    def assert_not_good(self, words, told, *ends):
        self.assertFalse(is_good(words, told, *ends), (words, told, ends))


class Refused(unittest.TestCase):
    def test_forty_inputs_and_more(self):
        for ends, many in (((3, 0, 2), 40), ((1, 0, 38), 40), ((1, -20, 18), 40)):
            self.assertEqual(ask(bound(*ends), good()), [[many], [0]])
        for ends, many in (((1, 0, 39), 41), ((2, 0, 5), 43), ((5, 0, 1), 63), ((8, 0, 1), 511)):
            self.assertEqual(ask(bound(*ends), good()), [[many], [-7]])

    def test_with_relations_too(self):
        one = relation("any", "", "equal", "")
        self.assertEqual(ask(one, bound(1, 0, 39), good(), bound(1, 0, 38), good()), [[0], [41], [-7], [40], [1, 0]])

    def test_it_changes_nothing(self):
        one = relation("any", "", "equal", "")
        broken = relation("any", "", "equal", "sum")
        self.assertEqual(ask(broken, one, good(), good(), bound(1, 0, 39), good(), good(), one, bound(0, 0, 0), good()),
                         [[0], [1], [1, 1], [1, 1], [41], [-7], [-7], [2], [1], [2, 1, 2]])


class WhichAreGood(Good):
    def test_none_some_all(self):
        kept = relation("any", "", "equal", "")
        broken = relation("any", "", "equal", "sum")
        self.assertEqual(last(good()), [0])
        self.assertEqual(last(broken, broken, good()), [0])
        self.assertEqual(last(broken, kept, broken, kept, good()), [2, 1, 3])
        self.assertEqual(last(kept, kept, kept, kept, kept, kept, good()), [6, 0, 1, 2, 3, 4, 5])
        self.assertEqual(last(kept, clear(), broken, good()), [0])

    def test_broken_at_one_input_only(self):
        # At the last input, [2 2 2], alone: its sum is above 5.
        told = ("any", "sum, above 5", "equal", "take 0")
        self.assert_not_good("", told, 3, 0, 2)
        self.assert_good("", told, 2, 0, 2)
        # At the first one, [], alone.
        self.assert_not_good("", ("any", "count, add 1, rest 2, above 0, count", "most", "times 0, sum"), 1, 1, 1)

    def test_the_empty_row_is_an_input(self):
        self.assert_not_good("", ("any", "sum", "equal", ""), 0, 0, 0)
        self.assert_not_good("", ("any", "sum", "equal", ""), 1, 3, 3)
        self.assert_good("", ("filled", "sum", "equal", ""), 1, 3, 3)

    def test_another_program(self):
        told = ("any", "reverse", "equal", "")
        self.assert_good("sum", told, 2, 0, 1)
        self.assert_not_good("sums", told, 2, 0, 1)
        self.assert_good("sort", told, 2, 0, 1)
        self.assert_not_good("", told, 2, 0, 1)


class Sides(Good):
    def test_the_left_one_is_of_the_turned_input(self):
        # Left: take 1 of what's turned round; right: what take 1 gives, turned round.
        self.assert_not_good("take 1", ("any", "reverse", "equal", "reverse"), 2, 0, 1)
        self.assert_good("add 1", ("any", "times 2", "equal", "times 2, add -1"), 2, 0, 1)
        self.assert_not_good("add 1", ("any", "times 2, add -1", "equal", "times 2"), 2, 0, 1)

    def test_the_left_one_stands_to_the_right_one(self):
        self.assert_good("", ("any", "take 1", "begins", ""), 2, 0, 1)
        self.assert_not_good("", ("any", "", "begins", "take 1"), 2, 0, 1)
        self.assert_good("", ("any", "", "most", "add 1"), 2, 0, 1)
        self.assert_not_good("", ("any", "add 1", "most", ""), 2, 0, 1)
        self.assert_good("", ("any", "add 1", "least", ""), 2, 0, 1)
        self.assert_not_good("", ("any", "", "least", "add 1"), 2, 0, 1)


class Conditions(Good):
    """With no steps in the program, a relation stands between its two turnings."""

    def test_any(self):
        self.assert_not_good("", ("any", "twice", "equal", ""), 2, -1, 1)
        self.assert_not_good("", ("any", "sum", "equal", "take 0"), 0, 0, 0)

    def test_it_has_numbers(self):
        self.assert_good("", ("filled", "count", "most", "count, times 2, add -1"), 3, 0, 1)
        self.assert_not_good("", ("any", "count", "most", "count, times 2, add -1"), 3, 0, 1)
        self.assert_not_good("", ("filled", "twice", "equal", ""), 1, 0, 0)

    def test_rising(self):
        self.assert_good("", ("rising", "sort", "equal", ""), 3, 0, 2)
        self.assert_not_good("", ("any", "sort", "equal", ""), 3, 0, 2)
        # Neighbours may be alike: else this would be off at [1 1].
        self.assert_not_good("", ("rising", "once", "equal", ""), 2, 1, 1)
        self.assert_not_good("", ("rising", "sum", "equal", ""), 0, 0, 0)

    def test_no_number_below_0(self):
        self.assert_good("", ("unsigned", "abs", "equal", ""), 2, -2, 2)
        self.assert_not_good("", ("any", "abs", "equal", ""), 2, -2, 2)
        self.assert_not_good("", ("unsigned", "add 1", "equal", ""), 1, 0, 0)
        self.assert_not_good("", ("unsigned", "sum", "equal", ""), 0, 0, 0)
        self.assert_good("", ("unsigned", "above -1", "equal", ""), 2, -1, 0)

    def test_no_number_twice(self):
        self.assert_good("", ("different", "once", "equal", ""), 3, 0, 2)
        self.assert_not_good("", ("any", "once", "equal", ""), 3, 0, 2)
        # [0 1 0]: the like ones aren't neighbours. [1 0]: not rising, yet each once.
        self.assert_not_good("", ("different", "sort", "equal", ""), 2, 0, 1)
        self.assert_not_good("", ("different", "sum", "equal", ""), 0, 0, 0)

    def test_k_numbers_or_more(self):
        # Broken at rows of just 2 numbers.
        told = ("count, rest 3", "equal", "count, rest 2")
        two = ("take 2, drop 1, count", "most", "drop 2, count")
        self.assert_not_good("", ("long 2",) + two, 3, 0, 0)
        self.assert_good("", ("long 3",) + two, 3, 0, 0)
        self.assert_good("", ("long 9", "twice", "equal", "sum"), 8, 0, 0)
        self.assert_not_good("", ("long 8", "twice", "equal", "sum"), 8, 0, 0)
        self.assert_not_good("", ("long 0", "sum", "equal", ""), 0, 0, 0)
        self.assert_good("", ("long 1", "sum", "equal", ""), 0, 0, 0)
        self.assert_not_good("", ("long 2",) + told, 2, 0, 0)
        self.assert_good("", ("long 3",) + told, 2, 0, 0)

    def test_the_condition_is_on_the_input(self):
        # Neither on the turned one nor on what the program makes of it.
        self.assert_not_good("", ("filled", "take 0", "equal", ""), 1, 1, 1)
        self.assert_good("", ("filled", "sum", "equal", ""), 0, 0, 0)
        self.assert_not_good("take 0, sum", ("filled", "", "equal", "add 1"), 1, 1, 1)
        self.assert_good("sum", ("filled", "", "equal", "add 1"), 0, 0, 0)


class Stands(Good):
    """With no steps in the program, at rows of [] and [5] or so."""

    def stands(self, stand, left, right, *ends):
        return is_good("", ("filled", left, stand, right), *(ends or (1, 5, 5)))

    def test_equal(self):
        self.assertTrue(self.stands("equal", "twice", "twice"))
        self.assertFalse(self.stands("equal", "twice", ""))
        self.assertFalse(self.stands("equal", "", "twice"))
        self.assertFalse(self.stands("equal", "reverse", "", 2, 0, 1))

    def test_bag(self):
        self.assertTrue(self.stands("bag", "reverse", "", 3, 0, 2))
        self.assertFalse(self.stands("bag", "twice", ""))
        self.assertFalse(self.stands("bag", "", "twice"))
        self.assertFalse(self.stands("bag", "add 1", ""))
        # [0 0 1] beside [1 1 0]: as many and the same numbers, but not as often.
        self.assertFalse(self.stands("bag", "times -1, add 1", "", 3, 0, 1))

    def test_numbers(self):
        self.assertTrue(self.stands("numbers", "twice", ""))
        self.assertTrue(self.stands("numbers", "", "twice"))
        self.assertTrue(self.stands("numbers", "reverse, once", "", 3, 0, 2))
        self.assertFalse(self.stands("numbers", "greatest", "", 2, 0, 1))
        self.assertFalse(self.stands("numbers", "", "greatest", 2, 0, 1))
        self.assertFalse(self.stands("numbers", "add 1", ""))
        self.assertFalse(self.stands("numbers", "take 0", ""))
        self.assertTrue(self.stands("numbers", "take 0", "drop 1"))

    def test_most(self):
        self.assertTrue(self.stands("most", "", ""))
        self.assertTrue(self.stands("most", "", "add 1"))
        self.assertFalse(self.stands("most", "add 1", ""))
        self.assertFalse(self.stands("most", "", "twice"))
        self.assertFalse(self.stands("most", "twice", ""))
        # [0 1] beside [1 0]: one at most, one not.
        self.assertFalse(self.stands("most", "", "reverse", 2, 0, 1))
        self.assertTrue(self.stands("most", "times 0", "", 2, 0, 1))

    def test_least(self):
        self.assertTrue(self.stands("least", "", ""))
        self.assertTrue(self.stands("least", "add 1", ""))
        self.assertFalse(self.stands("least", "", "add 1"))
        self.assertFalse(self.stands("least", "", "twice"))
        self.assertFalse(self.stands("least", "twice", ""))
        self.assertFalse(self.stands("least", "", "reverse", 2, 0, 1))
        self.assertTrue(self.stands("least", "", "times 0", 2, 0, 1))

    def test_begins(self):
        self.assertTrue(self.stands("begins", "", "twice", 2, 0, 1))
        self.assertTrue(self.stands("begins", "", "", 2, 0, 1))
        self.assertTrue(self.stands("begins", "take 0", "", 2, 0, 1))
        self.assertFalse(self.stands("begins", "twice", "", 2, 0, 1))
        self.assertFalse(self.stands("begins", "drop 1", "", 2, 0, 1))

    def test_long(self):
        self.assertTrue(self.stands("long", "reverse, add 1", ""))
        self.assertFalse(self.stands("long", "twice", ""))
        self.assertFalse(self.stands("long", "", "twice"))


class Off(Good):
    """Were the relation not off at [1], it would be broken there."""

    def one(self, words, told):
        return is_good(words, ("filled",) + told, 1, 1, 1)

    def test_a_million_and_more(self):
        self.assertFalse(self.one("", (MILLION, "equal", "")))
        self.assertTrue(self.one("", (MILLION + ", add 1", "equal", "")))
        self.assertFalse(self.one("", (MILLION + ", times -1", "equal", "")))
        self.assertTrue(self.one("", (MILLION + ", times -1, add -1", "equal", "")))

    def test_a_run_that_comes_back_is_beyond(self):
        self.assertTrue(self.one("", (MILLION + ", add 1, add -2", "equal", "")))
        self.assertTrue(self.one("", (MILLION + ", add 1, take 0", "equal", "")))

    def test_forty_numbers_and_more(self):
        five = ("long 5", "twice, twice, twice", "equal", "")
        self.assert_not_good("", five, 5, 0, 0)
        # From three numbers 24, of these 21, of these 42.
        more = ("long 3", "twice, twice, twice, drop 3, twice", "equal", "")
        self.assert_good("", more, 3, 0, 0)
        fewer = ("long 3", "twice, twice, twice, drop 4, twice", "equal", "")
        self.assert_not_good("", fewer, 3, 0, 0)
        back = ("long 3", "twice, twice, twice, drop 3, twice, take 1", "equal", "")
        self.assert_good("", back, 3, 0, 0)

    def test_each_of_the_four_runs(self):
        # The program on the input.
        self.assertTrue(self.one(MILLION + ", add 1, take 0", ("times 0", "equal", "sum, add 1")))
        # The input's turning.
        self.assertTrue(self.one("", (MILLION + ", add 1, take 0", "equal", "")))
        # The program on what's turned.
        self.assertFalse(self.one("times 99, times 99", ("times 99", "equal", "")))
        self.assertTrue(self.one("times 99, times 99", ("times 99, times 2", "equal", "")))
        # The output's turning.
        self.assertTrue(self.one("", ("", "equal", MILLION + ", add 1, take 0")))

    def test_off_at_one_input_says_nothing_of_the_others(self):
        # [2] goes beyond, [1] is broken.
        told = ("filled", MILLION, "equal", "")
        self.assert_good("", told, 1, 2, 2)
        self.assert_not_good("", told, 1, 1, 2)


class EachStep(Good):
    """With no steps in the program: which turnings are equal at each input, and which aren't."""

    EQUAL = (
        ("add 2", "add 1, add 1"),
        ("add -99, add 99", ""),
        ("times 2", "add 0, times 1, times 2"),
        ("times -1", "times -1, times -1, times -1"),
        ("rest 2, rest 3", "rest 2"),
        ("add 2, rest 2", "rest 2"),
        ("add -9, rest 9", "rest 9"),
        ("abs", "times -1, abs"),
        ("sort", "reverse, sort"),
        ("sort, take 1", "least"),
        ("sort, reverse, take 1", "greatest"),
        ("reverse, reverse", ""),
        ("rotate 6", ""),
        ("rotate 7", "rotate 1"),
        ("rotate 1, rotate 1", "rotate 2"),
        ("take 9", ""),
        ("take 1, drop 1", "take 0"),
        ("drop 0", ""),
        ("drop 1, drop 1", "drop 2"),
        ("above -2", ""),
        ("above 0, times 0, add 1", "above 0"),
        ("once, once", "once"),
        ("twice, once", "once"),
        ("reverse, sum", "sum"),
        ("sums, reverse, take 1, sum", "sum"),
        ("times 0, add 1, sum", "count"),
        ("times -1, greatest, times -1", "least"),
        ("steps, sum", "drop 1, steps, sum", 1),
        ("sums, steps", "drop 1"),
        ("twice, count", "count, times 2"),
        ("count", "reverse, count"),
    )

    DIFFERENT = (
        ("add 1", ""), ("times 2", ""), ("rest 2", ""), ("rest 1", "rest 2"), ("abs", ""), ("sort", ""),
        ("reverse", ""), ("rotate 1", ""), ("rotate 1", "reverse, rotate 1, reverse", 3), ("take 1", ""),
        ("take 1", "take 2"), ("drop 1", ""), ("drop 1", "take 1"), ("above 0", ""), ("above 0", "above -1"),
        ("once", ""), ("once", "sort, once"), ("sum", "count"), ("sum", "greatest"), ("greatest", "least"),
        ("greatest", "take 1"), ("least", "take 1"), ("count", "once, count"), ("steps", "sums"), ("steps", "drop 1"),
        ("sums", ""), ("twice", ""),
    )

    def ends(self, case):
        return (case[2] if len(case) == 3 else 3, -1, 1)

    def test_equal_ones(self):
        for case in self.EQUAL:
            self.assert_good("", ("any", case[0], "equal", case[1]), *self.ends(case))

    def test_different_ones(self):
        for case in self.DIFFERENT:
            self.assert_not_good("", ("any", case[0], "equal", case[1]), *self.ends(case))

    def test_a_row_without_numbers(self):
        with_a_number = ("add", "times", "rest", "rotate", "take", "drop", "above")
        for name in STEPS:
            words = name + (" 1" if name in with_a_number else "")
            if name in ("sum", "count"):
                self.assert_not_good("", ("any", words, "equal", ""), 0, 0, 0)
                self.assert_good("", ("any", words, "equal", "count, times 0"), 0, 0, 0)
                self.assert_good("", ("any", words, "equal", words + ", times 2"), 0, 0, 0)
            else:
                self.assert_good("", ("any", words, "equal", ""), 0, 0, 0)
