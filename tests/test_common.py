"""Points 2, 32, 33, 36, 37 and 39 to 42: common lists and levels."""

import random
import unittest
from itertools import combinations, permutations, product

from fewestrules.common import accepts_levels, is_common, levels_for, longest_common
from tests.helpers import (ALIKE_TWELVE, MANY_LONGEST, NAMES, NO_LISTS, TWELVE, WRONG_ORDERS, assert_bad_values,
                           assert_printed, left_out, orders_of, orders_within, put_behind, reckoned_common,
                           reckoned_difference, reckoned_right, same, some_orders, some_pairs, turned)

FIRST = (("a", "b", "c", "d"), (1, 1, 1))
SECOND = (("b", "d", "a", "c"), (1, 2, 1))


def small_pairs():
    """Pairs of orders of up to three letters, of which some have no letter in common."""
    orders = list(orders_within(("a", "b", "c"))) + list(orders_within(("b", "d")))
    for at, first in enumerate(orders):
        for second in orders[at % 4::4]:
            yield first, second


def tried_pairs(seed=30, many=150):
    yield from list(small_pairs())[::3]
    yield from some_pairs(seed, many)
    for first, second, _ in MANY_LONGEST:
        yield first, second


def reckoned_is_common(first, second, letters):
    """Point 32 word by word, for a tuple of letters."""
    for order in (first, second):
        places = [order[0].index(letter) if letter in order[0] else -1 for letter in letters]
        if -1 in places or places != sorted(set(places)):
            return False
    for one, other in zip(letters, letters[1:]):
        if reckoned_difference(first, one, other) != reckoned_difference(second, one, other):
            return False
    return True


class CommonLists(unittest.TestCase):
    def test_each_tuple_of_letters_of_small_orders(self):
        rows = [row for many in range(5) for row in permutations(("a", "b", "c", "d"), many)]
        for first, second in list(small_pairs())[::5]:
            for letters in rows:
                same(self, is_common(first, second, letters), reckoned_is_common(first, second, letters))

    def test_any_two_of_its_letters(self):
        for first, second in tried_pairs():
            for letters in reckoned_common(first, second)[:20]:
                same(self, is_common(first, second, letters), True)
                same(self, is_common(second, first, letters), True)
                for one, other in combinations(letters, 2):
                    same(self, is_common(first, second, (one, other)), True)

    def test_the_empty_one_and_single_letters(self):
        for first, second in tried_pairs():
            same(self, is_common(first, second, ()), True)
            for letter in NAMES:
                same(self, is_common(first, second, (letter,)), letter in first[0] and letter in second[0])

    def test_of_twelve_letters(self):
        for first, second in some_pairs(31, 60):
            lists = reckoned_common(first, second)
            shared = [letter for letter in second[0] if letter in first[0]]
            for many in (2, 3):
                for letters in list(combinations(shared, many))[::3]:
                    same(self, is_common(first, second, letters), letters in lists)
                    same(self, is_common(first, second, letters[::-1]), False)

    def test_letters_twice_and_of_one_order_alone(self):
        for letters in (("a", "a"), ("a", "b", "a"), ("a", "b", "b"), ("a", "z"), ("z", "a"), ("z",), ("a", "d")):
            for order in ((("a", "b", "d"), (1, 1)), (("a", "b", "z"), (1, 1))):
                same(self, is_common((("a", "b", "c"), (1, 1)), order, letters), False)
                same(self, is_common(order, (("a", "b", "c"), (1, 1)), letters), False)

    def test_other_values(self):
        for first, second in ((FIRST, SECOND), (FIRST, FIRST), (ALIKE_TWELVE, ALIKE_TWELVE), (((), ()), ((), ()))):
            for value in NO_LISTS:
                same(self, is_common(first, second, value), False)
        same(self, is_common(FIRST, FIRST, ["a", "b"]), False)

    def test_the_difference_has_to_be_the_same(self):
        for strengths in product((1, 2, 3), repeat=4):
            first = (("a", "b", "c"), strengths[:2])
            second = (("a", "b", "c"), strengths[2:])
            wanted = min(strengths[:2]) == min(strengths[2:])
            same(self, is_common(first, second, ("a", "c")), wanted)


class Longest(unittest.TestCase):
    def test_the_first_one_of_all(self):
        for first, second in list(small_pairs()) + list(some_pairs(32, 250)):
            same(self, longest_common(first, second), reckoned_common(first, second)[0])

    def test_small_orders_of_four_letters(self):
        orders = list(orders_of(("a", "b", "c", "d")))
        for at, first in enumerate(orders[::9]):
            for second in orders[at % 40::40]:
                same(self, longest_common(first, second), reckoned_common(first, second)[0])

    def test_many_of_twelve_letters(self):
        for first, second, _ in MANY_LONGEST:
            same(self, longest_common(first, second), reckoned_common(first, second)[0])
            same(self, longest_common(second, first), reckoned_common(second, first)[0])

    def test_no_letter_in_common(self):
        for order in some_orders(33, 24, 1, 12):
            same(self, longest_common(((), ()), order), ())
            same(self, longest_common(order, ((), ())), ())
            same(self, longest_common((("zz",), ()), order), ())
            same(self, longest_common(order, (("y", "z"), (2,))), ())
        same(self, longest_common(((), ()), ((), ())), ())

    def test_the_first_one_goes_by_the_second_order(self):
        same(self, longest_common((("b", "a"), (1,)), (("a", "b"), (1,))), ("a",))
        same(self, longest_common((("a", "b"), (1,)), (("b", "a"), (1,))), ("b",))
        same(self, longest_common((("b", "a"), (1,)), (("b", "a"), (2,))), ("b",))


class Levels(unittest.TestCase):
    def test_longest_lists_that_end_with_a_letter(self):
        for first, second in tried_pairs():
            ends = {letter: 0 for letter in second[0]}
            for letters in reckoned_common(first, second):
                if letters:
                    ends[letters[-1]] = max(ends[letters[-1]], len(letters))
            found = levels_for(first, second)
            same(self, found, tuple(ends[letter] for letter in second[0]))
            same(self, accepts_levels(first, second, found), True)
            self.assertEqual(max(found, default=0), len(longest_common(first, second)))

    def test_greater_and_lesser_ones(self):
        for first, second in tried_pairs(34, 60):
            right = levels_for(first, second)
            for place in range(len(right)):
                for change in (-2, -1, 1, 2, 20):
                    levels = right[:place] + (right[place] + change,) + right[place + 1:]
                    wanted = reckoned_right(first, second, levels)
                    same(self, accepts_levels(first, second, levels), wanted)
            greater = tuple(number * 3 for number in right)
            same(self, accepts_levels(first, second, greater), True)

    def test_all_levels_of_small_orders(self):
        for first, second in list(small_pairs())[::11]:
            for levels in product((-1, 0, 1, 2, 3), repeat=len(second[0])):
                same(self, accepts_levels(first, second, levels), reckoned_right(first, second, levels))

    def test_no_common_list_has_more_letters(self):
        chance = random.Random(35)
        for first, second in some_pairs(35, 400, 4):
            levels = tuple(chance.choice((0, 1, 1, 2, 3)) for _ in second[0])
            same(self, accepts_levels(first, second, levels), reckoned_right(first, second, levels))
            if accepts_levels(first, second, levels):
                self.assertGreaterEqual(max(levels, default=0), len(longest_common(first, second)))

    def test_number_of_levels(self):
        for many in range(0, 7):
            same(self, accepts_levels(FIRST, SECOND, (1, 2, 3, 4, 5, 6)[:many]), many == 4)
        same(self, accepts_levels(((), ()), ((), ()), ()), True)
        same(self, accepts_levels(FIRST, ((), ()), ()), True)
        same(self, accepts_levels(FIRST, ((), ()), (0,)), False)
        same(self, levels_for(FIRST, ((), ())), ())
        same(self, levels_for(((), ()), FIRST), (0, 0, 0, 0))
        same(self, accepts_levels(((), ()), FIRST, (0, 0, 0, 0)), True)
        same(self, accepts_levels(((), ()), FIRST, (0, 0, 1, 0)), False)

    def test_values_of_other_forms(self):
        for value in NO_LISTS + (None, 1, [1, 2, 1, 2], "1212", {1: 2}, {1, 2, 3, 4}, (1, 2, 1), ((1, 2, 1, 2),)):
            same(self, accepts_levels(FIRST, SECOND, value), False)
        for place in range(4):
            for value in (None, True, "1", "a", (1,), [1], 9.0, {}):
                levels = (1, 2, 3, 4)[:place] + (value,) + (1, 2, 3, 4)[place + 1:]
                same(self, accepts_levels(FIRST, SECOND, levels), False)
        for value in (False, None, "0", 0.0, (), []):
            same(self, accepts_levels((("a",), ()), (("a", "b"), (1,)), (1, value)), False)
        same(self, accepts_levels((("a",), ()), (("a", "b"), (1,)), (True, 0)), False)
        same(self, accepts_levels((("a",), ()), (("a", "b"), (1,)), (10 ** 30, 0)), True)


class Sentences(unittest.TestCase):
    def common(self, first, second):
        """All common lists, as the program tells them."""
        return [letters for letters in reckoned_common(first, second) if is_common(first, second, letters)]

    def test_reversed_orders(self):
        for first, second in tried_pairs(36, 60):
            found = sorted(letters[::-1] for letters in self.common(first, second))
            self.assertEqual(sorted(self.common(turned(first), turned(second))), found)
            again = longest_common(turned(first), turned(second))
            self.assertEqual(len(again), len(longest_common(first, second)))

    def test_a_letter_taken_out_of_both(self):
        for first, second in tried_pairs(37, 40):
            for letter in second[0][:4]:
                wanted = sorted(letters for letters in self.common(first, second) if letter not in letters)
                found = self.common(left_out(first, letter), left_out(second, letter))
                self.assertEqual(sorted(found), wanted)

    def test_a_new_letter_behind_all_others(self):
        for first, second in some_pairs(38, 120, 11):
            if "zz" in first[0] or len(second[0]) > 11 or len(first[0]) > 11:
                continue
            before = longest_common(first, second)
            for strength in (1, 2, 3):
                wide = put_behind(first, "zz", strength), put_behind(second, "zz", strength)
                found = longest_common(*wide)
                self.assertGreaterEqual(len(found), len(before))
                if strength == 1:
                    same(self, found, before + ("zz",))

    def test_all_strengths_1(self):
        for first in orders_within(("a", "b", "c")):
            for second in orders_of(("c", "a", "b")):
                first, second = (first[0], (1,) * len(first[1])), (second[0], (1,) * len(second[1]))
                for many in range(4):
                    for letters in combinations(first[0], many):
                        wanted = sorted(letters, key=second[0].index) == list(letters)
                        same(self, is_common(first, second, letters), wanted)

    def test_equal_orders(self):
        for order in list(orders_within(("a", "b", "c"))) + list(some_orders(39, 60, 1, 12)):
            same(self, longest_common(order, order), order[0])
            same(self, levels_for(order, order), tuple(range(1, len(order[0]) + 1)))


class WrongArguments(unittest.TestCase):
    def test_each_function(self):
        orders = [("first", FIRST, WRONG_ORDERS), ("second", SECOND, WRONG_ORDERS)]
        for function in (longest_common, levels_for):
            assert_bad_values(self, function, orders)
        for value in (("a",), None, ("z", "z"), (1, 2, 1, 2)):
            for function in (is_common, accepts_levels):
                assert_bad_values(self, lambda first, second: function(first, second, value), orders)


class Printed(unittest.TestCase):
    def test_point_42(self):
        assert_printed(self, '''
>>> from fewestrules.common import accepts_levels, is_common, levels_for, longest_common
>>> from fewestrules.counting import always_in, count_longest, longest_with, never_in, nth_longest
>>> first = (("a", "b", "c", "d"), (1, 1, 1))
>>> second = (("b", "d", "a", "c"), (1, 2, 1))
>>> longest_common(first, second), levels_for(first, second)
(('b', 'd'), (1, 2, 1, 2))
>>> count_longest(first, second), nth_longest(first, second, 1), nth_longest(first, second, 2)
(3, ('b', 'c'), ('a', 'c'))
>>> always_in(first, second), never_in(first, second), longest_with(first, second, ("a",))
((), (), ('a', 'c'))
>>> accepts_levels(first, second, (1, 2, 1, 7)), accepts_levels(first, second, (1, 1, 1, 2))
(True, False)
>>> is_common((("a", "b", "c"), (1, 3)), (("a", "b", "c"), (3, 1)), ("a", "b"))
False
''')
