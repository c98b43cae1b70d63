"""Points 2, 43, 45 to 47, 53 and 54: the rules that keep a common list."""

import random
import unittest

from fewestrules.common import is_common, longest_common
from fewestrules.keeping import keeping_rules
from fewestrules.rules import applied, is_rule, led
from tests.helpers import (ALIKE_TWELVE, MANY_LONGEST, NAMES, NO_LISTS, TWELVE, WRONG_ORDERS, assert_bad_value,
                           assert_bad_values, assert_printed, orders_within, reachable_pairs, reckoned_common,
                           reckoned_led, reckoned_result, rules_for, same, small_reachable_pairs, some_orders,
                           some_pairs, some_rules, steps_from)

EMPTY = ((), ())
FIRST = (("a", "b", "c", "d"), (1, 1, 1))
SECOND = (("b", "d", "a", "c"), (1, 2, 1))


def reckoned_rules(second, letters):
    """The rules of point 45, told sentence by sentence."""
    row, strengths = second
    before = dict(zip(row[1:], strengths))
    ahead = dict(zip(row[1:], row))
    behind = dict(zip(row, row[1:]))
    after_it = [("after", ahead[y], before[y], y) for y in row[1:]]
    before_it = [("before", behind[y], before[behind[y]], y) for y in row[:-1]]
    rules = []
    first_gap = row[:row.index(letters[0])]
    rules += [rule for y in reversed(first_gap) for rule in before_it if rule[3] == y]
    for x, z in zip(letters, letters[1:]):
        gap = row[row.index(x) + 1:row.index(z)]
        k = min(before[y] for y in gap + (z,))
        turn = [before[y] for y in gap + (z,)].index(k)
        rules += [rule for y in gap[:turn] for rule in after_it if rule[3] == y]
        rules += [rule for y in reversed(gap[turn:]) for rule in before_it if rule[3] == y]
    rules += [rule for y in row[row.index(letters[-1]) + 1:] for rule in after_it if rule[3] == y]
    return tuple(rules)


class Kept(unittest.TestCase):
    def assert_keeps(self, first, second, letters):
        rules = keeping_rules(first, second, letters)
        same(self, rules, reckoned_rules(second, letters))
        moved = sorted(letter for letter in second[0] if letter not in letters)
        self.assertEqual(sorted(rule[3] for rule in rules), moved)
        current = first
        for rule in rules:
            self.assertTrue(is_rule(rule))
            current = applied(current, rule)
        same(self, current, second)
        same(self, led(first, rules), second)

    def test_each_common_list_of_small_orders(self):
        for first, second in small_reachable_pairs():
            for letters in reckoned_common(first, second):
                if letters:
                    self.assert_keeps(first, second, letters)

    def test_common_lists_of_large_orders(self):
        chance = random.Random(50)
        for first, second in reachable_pairs(50, 400):
            lists = [letters for letters in reckoned_common(first, second) if letters]
            for letters in lists[:3] + lists[-3:] + chance.sample(lists, min(6, len(lists))):
                self.assert_keeps(first, second, letters)

    def test_a_letter_in_each_place(self):
        for first, second, _ in MANY_LONGEST:
            for letter in TWELVE:
                self.assert_keeps(first, second, (letter,))
        for order in some_orders(51, 36):
            for letter in order[0]:
                self.assert_keeps(((letter,), ()), order, (letter,))

    def test_gap_by_gap(self):
        first = (("x", "y", "z"), (1, 1))
        second = (tuple("abxcdefyzgh"), (2, 3, 3, 2, 1, 1, 2, 1, 2, 3))
        wanted = (("before", "x", 3, "b"), ("before", "b", 2, "a"), ("after", "x", 3, "c"), ("after", "c", 2, "d"),
                  ("before", "y", 2, "f"), ("before", "f", 1, "e"), ("after", "z", 2, "g"), ("after", "g", 3, "h"))
        same(self, keeping_rules(first, second, ("x", "y", "z")), wanted)

    def test_where_the_strongest_strength_stands(self):
        for strengths, sides in (((1, 2, 3), "bb"), ((2, 1, 3), "ab"), ((3, 2, 1), "aa"), ((2, 2, 2), "bb"),
                                 ((3, 1, 1), "ab"), ((1, 3, 1), "bb"), ((3, 2, 2), "ab"), ((3, 3, 2), "aa")):
            first = (("x", "z"), (min(strengths),))
            found = keeping_rules(first, (("x", "p", "q", "z"), strengths), ("x", "z"))
            turns = {rule[3]: rule[0][0] for rule in found}
            self.assertEqual(turns["p"] + turns["q"], sides)

    def test_nothing_to_move(self):
        for order in some_orders(52, 48):
            same(self, keeping_rules(order, order, order[0]), ())

    def test_the_fewest_rules(self):
        # All orders that rules can make of letters of three, reached step by step.
        for first in list(orders_within(("a", "b", "c")))[1::4]:
            for second, many in steps_from(first, ("a", "b", "c")).items():
                self.assertEqual(len(keeping_rules(first, second, longest_common(first, second))), many)

    def test_what_a_rule_list_does_not_move_is_a_common_list(self):
        chance = random.Random(53)
        for order in some_orders(53, 120):
            rules = some_rules(chance, order, chance.choice((1, 2, 3, 5, 9)))
            second = reckoned_led(order, rules)
            left = tuple(letter for letter in order[0] if letter not in [rule[3] for rule in rules])
            same(self, is_common(order, second, left), True)
            if left:
                self.assert_keeps(order, second, left)
                self.assertLessEqual(len(keeping_rules(order, second, left)), len(rules))


class Reached(unittest.TestCase):
    def test_none_if_a_letter_is_missing(self):
        same(self, keeping_rules(FIRST, (("a", "b"), (1,)), ("a", "b")), None)
        same(self, keeping_rules(FIRST, (("a", "b", "c", "e"), (1, 1, 1)), ("a",)), None)
        same(self, keeping_rules((("z", "a"), (1,)), FIRST, ("a",)), None)
        same(self, keeping_rules((("a", "z"), (1,)), FIRST, ("a",)), None)
        many = 0
        for first, second in some_pairs(54, 200):
            if not all(letter in second[0] for letter in first[0]):
                for letters in reckoned_common(first, second)[:2]:
                    if letters:
                        many += 1
                        same(self, keeping_rules(first, second, letters), None)
        self.assertGreater(many, 20)

    def test_twelve_letters(self):
        found = keeping_rules((("a",), ()), ALIKE_TWELVE, ("a",))
        self.assertEqual(len(found), 11)
        same(self, led((("a",), ()), found), ALIKE_TWELVE)
        self.assertEqual(len(keeping_rules(ALIKE_TWELVE, (TWELVE[::-1], (1,) * 11), ("f",))), 11)


class WrongArguments(unittest.TestCase):
    def test_each_argument(self):
        no_lists = NO_LISTS + ((), ("d", "b"), ("d", "a"), ("b", "z"), ("z",), ("b", "d", "a"), ["b", "d"], NAMES)
        assert_bad_values(self, keeping_rules, [("first", FIRST, WRONG_ORDERS), ("second", SECOND, WRONG_ORDERS),
                                                ("letters", ("b", "d"), no_lists)])

    def test_the_empty_common_list(self):
        for first, second in ((EMPTY, EMPTY), (EMPTY, FIRST), (FIRST, EMPTY), (FIRST, FIRST)):
            assert_bad_value(self, "letters", keeping_rules, (first, second, ()))
            assert_bad_value(self, "letters", keeping_rules, (first, second, ("z",)))

    def test_wrong_letters_come_before_what_cannot_be_reached(self):
        second = (("b", "a"), (1,))
        for letters in (("a", "b"), ("b", "a"), ("c",), (), None):
            assert_bad_value(self, "letters", keeping_rules, (FIRST, second, letters))
        same(self, keeping_rules(FIRST, second, ("a",)), None)


class Printed(unittest.TestCase):
    def test_point_54(self):
        rules = keeping_rules(FIRST, SECOND, ("b", "d"))
        same(self, rules, (("after", "d", 2, "a"), ("after", "a", 1, "c")))
        first, second = (("p", "z"), (1,)), (("p", "y", "z"), (1, 3))
        for rule in rules_for(("p", "z"), "y"):
            if reckoned_result(first, rule) == second:
                self.assertEqual(rule[0], "before")

    def test_interface(self):
        assert_printed(self, '''
>>> from fewestrules.keeping import keeping_rules
>>> keeping_rules((("p", "z"), (1,)), (("p", "y", "z"), (1, 3)), ("p", "z"))
(('before', 'z', 3, 'y'),)
''')
