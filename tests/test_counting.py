"""Points 2, 34, 35, 38 and 41: counting the longest common lists."""

import random
import unittest
from itertools import permutations

from fewestrules.counting import always_in, count_longest, index_of_longest, longest_with, never_in, nth_longest
from tests.helpers import (ALIKE_TWELVE, MANY_LONGEST, NAMES, NO_LISTS, THIRTEEN, TWELVE, WRONG_ORDERS, WRONG_TUPLES,
                           assert_bad_value, assert_bad_values, orders_within, reckoned_common, reckoned_longest, same,
                           some_pairs)

FIRST = (("a", "b", "c", "d"), (1, 1, 1))
SECOND = (("b", "d", "a", "c"), (1, 2, 1))
EMPTY = ((), ())
NO_INDEXES = (None, True, False, -1, "0", "", (), (0,), [0], 0.0, 3, 4, 100, 10 ** 30)


def small_pairs():
    orders = list(orders_within(("a", "b", "c"))) + list(orders_within(("b", "d")))
    for at, first in enumerate(orders):
        for second in orders[at % 7::7]:
            yield first, second


def tried_pairs(seed, many=150):
    yield from small_pairs()
    yield from some_pairs(seed, many)
    for first, second, _ in MANY_LONGEST:
        yield first, second


class Counting(unittest.TestCase):
    def test_each_one_by_its_index_and_back(self):
        for first, second in tried_pairs(40):
            wanted = reckoned_longest(first, second)
            same(self, count_longest(first, second), len(wanted))
            for index, letters in enumerate(wanted):
                same(self, nth_longest(first, second, index), letters)
                same(self, index_of_longest(first, second, letters), index)

    def test_many_of_twelve_letters(self):
        for first, second, many in MANY_LONGEST:
            same(self, count_longest(first, second), many)
            same(self, count_longest(second, first), many)

    def test_no_letter_in_common(self):
        for first, second in ((EMPTY, EMPTY), (EMPTY, FIRST), (FIRST, EMPTY), ((("z",), ()), FIRST)):
            same(self, count_longest(first, second), 1)
            same(self, nth_longest(first, second, 0), ())
            same(self, index_of_longest(first, second, ()), 0)
            same(self, index_of_longest(first, second, ("a",)), None)
            assert_bad_value(self, "index", nth_longest, (first, second, 1))

    def test_common_lists_that_are_not_the_longest(self):
        for first, second in tried_pairs(41, 60):
            longest = reckoned_longest(first, second)
            for letters in reckoned_common(first, second):
                if letters not in longest:
                    same(self, index_of_longest(first, second, letters), None)

    def test_tuples_that_are_no_common_lists(self):
        for first, second in list(small_pairs())[::3]:
            longest = reckoned_longest(first, second)
            for many in range(0, 4):
                for letters in permutations(("a", "b", "c", "d"), many):
                    wanted = longest.index(letters) if letters in longest else None
                    same(self, index_of_longest(first, second, letters), wanted)

    def test_other_values(self):
        for first, second in ((FIRST, SECOND), (EMPTY, EMPTY), (ALIKE_TWELVE, ALIKE_TWELVE), (FIRST, FIRST)):
            for value in NO_LISTS:
                same(self, index_of_longest(first, second, value), None)
        for value in (["b", "d"], "bd", ("b", "d", "d"), ("d", "b"), ("b", ("d",)), (("b", "d"),), ("b", "z")):
            same(self, index_of_longest(FIRST, SECOND, value), None)
        same(self, index_of_longest((("a",), ()), (("a",), ()), "a"), None)
        same(self, index_of_longest(EMPTY, EMPTY, []), None)


class Staying(unittest.TestCase):
    def test_always_and_never(self):
        for first, second in tried_pairs(42):
            longest = reckoned_longest(first, second)
            always = tuple(x for x in second[0] if all(x in letters for letters in longest))
            never = tuple(x for x in second[0] if not any(x in letters for letters in longest))
            same(self, always_in(first, second), always)
            same(self, never_in(first, second), never)

    def test_no_letter_in_common(self):
        same(self, always_in(EMPTY, FIRST), ())
        same(self, never_in(EMPTY, FIRST), FIRST[0])
        same(self, never_in((("z",), ()), SECOND), SECOND[0])
        same(self, never_in(FIRST, EMPTY), ())
        same(self, always_in(FIRST, EMPTY), ())

    def test_equal_orders(self):
        same(self, always_in(ALIKE_TWELVE, ALIKE_TWELVE), TWELVE)
        same(self, never_in(ALIKE_TWELVE, ALIKE_TWELVE), ())

    def test_each_kind(self):
        first = (tuple("abcdef"), (1,) * 5)
        second = (tuple("zfbadce"), (1,) * 6)
        same(self, always_in(first, second), ("e",))
        same(self, never_in(first, second), ("z", "f"))
        # Once b differs more weakly from a, no longest list has both, though each goes with the others.
        same(self, always_in((tuple("abc"), (1, 1)), (tuple("abc"), (2, 1))), ("c",))


class LongestWith(unittest.TestCase):
    def wanted(self, first, second, letters):
        for row in reckoned_common(first, second):
            if all(letter in row for letter in letters):
                return row
        return None

    def test_letters_of_small_orders(self):
        for first, second in small_pairs():
            for many in range(0, 4):
                for letters in list(permutations(("a", "b", "c", "d"), many))[::2]:
                    same(self, longest_with(first, second, letters), self.wanted(first, second, letters))

    def test_letters_of_large_orders(self):
        chance = random.Random(43)
        for first, second in tried_pairs(43, 150):
            shared = [letter for letter in second[0] if letter in first[0]]
            for many in range(0, 5):
                letters = tuple(chance.sample(shared, min(many, len(shared))))
                same(self, longest_with(first, second, letters), self.wanted(first, second, letters))
            rows = reckoned_common(first, second)
            row = list(chance.choice(rows))
            chance.shuffle(row)
            same(self, longest_with(first, second, tuple(row)), self.wanted(first, second, row))
            same(self, longest_with(first, second, tuple(row)[:3]), self.wanted(first, second, row[:3]))

    def test_letters_of_one_order_or_of_none(self):
        first = (("a", "b", "c"), (1, 1))
        second = (("a", "b", "z"), (1, 1))
        for letters in (("c",), ("z",), ("q",), ("a", "c"), ("z", "a"), ("q", "a"), TWELVE, ("c", "z")):
            same(self, longest_with(first, second, letters), None)
        same(self, longest_with(first, second, ("b", "a")), ("a", "b"))
        same(self, longest_with(EMPTY, EMPTY, ("a",)), None)
        same(self, longest_with(EMPTY, FIRST, ("a",)), None)
        same(self, longest_with(EMPTY, EMPTY, ()), ())

    def test_any_sequence(self):
        same(self, longest_with(ALIKE_TWELVE, ALIKE_TWELVE, TWELVE[::-1]), TWELVE)
        same(self, longest_with(FIRST, SECOND, ("d", "b")), ("b", "d"))
        same(self, longest_with(FIRST, SECOND, ("d", "a")), None)
        for letters in permutations(("a", "e", "i")):
            same(self, longest_with(*MANY_LONGEST[4][:2], letters), ("a", "e", "i", "l"))


class WrongArguments(unittest.TestCase):
    def test_each_function(self):
        orders = [("first", FIRST, WRONG_ORDERS), ("second", SECOND, WRONG_ORDERS)]
        for function in (count_longest, always_in, never_in):
            assert_bad_values(self, function, orders)
        assert_bad_values(self, nth_longest, orders + [("index", 2, NO_INDEXES)])
        assert_bad_values(self, longest_with, orders + [("letters", ("a",), WRONG_TUPLES)])
        for value in (("b", "d"), None, ("a", "a")):
            assert_bad_values(self, lambda first, second: index_of_longest(first, second, value), orders)

    def test_letters_that_are_in_neither_order(self):
        for value in (("z", "z"), NAMES, THIRTEEN, ("Z",), ["a"]):
            assert_bad_value(self, "letters", longest_with, (FIRST, SECOND, value))

    def test_the_greatest_index(self):
        for first, second, many in MANY_LONGEST:
            self.assertEqual(len(nth_longest(first, second, many - 1)), len(nth_longest(first, second, 0)))
            for index in (many, many + 1, -1):
                assert_bad_value(self, "index", nth_longest, (first, second, index))


class Printed(unittest.TestCase):
    def test_point_42(self):
        same(self, count_longest(FIRST, SECOND), 3)
        rows = [nth_longest(FIRST, SECOND, index) for index in range(3)]
        same(self, rows, [("b", "d"), ("b", "c"), ("a", "c")])
        same(self, (always_in(FIRST, SECOND), never_in(FIRST, SECOND)), ((), ()))
        same(self, longest_with(FIRST, SECOND, ("a",)), ("a", "c"))
