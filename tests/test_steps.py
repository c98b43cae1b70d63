"""Points 2 and 112 to 116: orders that are one rule away, the way, and the judge of rows of steps."""

import random
import unittest

from fewestrules.common import levels_for
from fewestrules.fewest import distance, shortest_rules
from fewestrules.paths import lies_between
from fewestrules.steps import is_one_rule_away, is_shortest_row, way
from tests.helpers import (ALIKE_TWELVE, NAMES, OTHER_VALUES, TWELVE, WRONG_ORDERS, alike_pairs, assert_bad_value,
                           assert_bad_values, assert_printed, known_result, left_out, orders_of, reckoned_longest,
                           reckoned_right, rules_for, same, some_order, some_orders)

FIRST = (("a", "b", "c"), (1, 1))
SECOND = (("c", "b", "a"), (1, 1))
MIDDLE = (("a", "c", "b"), (1, 1))
ONE = (("a",), ())
EMPTY = ((), ())
ROW = (FIRST, MIDDLE, SECOND)
LEVELS = (1, 1, 1)
# Orders with other letters than a, b and c, and without letters.
NOT_OF_THESE = (EMPTY, ONE, (("a", "b"), (1,)), (("a", "b", "d"), (1, 1)), (("a", "b", "c", "d"), (1, 1, 1)),
                ALIKE_TWELVE)


def rules_on(order):
    """All rules for the letters of the order."""
    return [rule for letter in order[0] for rule in rules_for(order[0], letter)]


def near_to(order):
    """All orders other than this one to which a rule for its letters leads."""
    return {known_result(order, rule) for rule in rules_on(order)} - {order}


def reckoned_row(first, second, row):
    """True if the orders, which have the letters of the first one, are a row of steps between the two."""
    if not row or row[0] != first or row[-1] != second:
        return False
    return all(other in near_to(one) for one, other in zip(row, row[1:]))


def reckoned_judge(first, second, row, levels):
    """Point 113 for a tuple of orders of the same letters and a tuple of integers."""
    if not reckoned_row(first, second, row):
        return False
    if len(levels) != len(first[0]) or not reckoned_right(first, second, levels):
        return False
    return len(row) - 1 + max(levels) == len(first[0])


def other_orders(order):
    """Some orders that differ from the order: in strengths, letters, and in their sequence."""
    letters, strengths = order
    for at in range(len(strengths)):
        for strength in (0, 1, 2, 3, 4, True):
            yield letters, strengths[:at] + (strength,) + strengths[at + 1:]
        yield letters[:at] + (letters[at + 1], letters[at]) + letters[at + 2:], strengths
        yield letters, strengths[:at] + strengths[at + 1:]
    yield letters[::-1], strengths[::-1]
    yield left_out(order, letters[0])
    yield letters[1:] + ("zz",), strengths
    yield letters + ("zz",), strengths + (1,)
    yield list(letters), strengths
    yield EMPTY


class OneRuleAway(unittest.TestCase):
    def test_all_small_orders(self):
        for letters in (("a",), ("a", "b"), ("b", "c", "a")):
            orders = list(orders_of(letters))
            for first in orders:
                near = near_to(first)
                for second in orders:
                    same(self, is_one_rule_away(first, second), second in near)

    def test_orders_of_four_letters(self):
        orders = list(orders_of(("a", "b", "c", "d")))
        for first in orders[5::127]:
            near = near_to(first)
            for second in orders:
                same(self, is_one_rule_away(first, second), second in near)
                same(self, is_one_rule_away(second, first), second in near)

    def test_large_orders(self):
        told = set()
        chance = random.Random(220)
        for first, second in alike_pairs(221, 36):
            for other in (second, known_result(first, chance.choice(rules_on(first) or [None]))
                          if len(first[0]) > 1 else first):
                wanted = other in near_to(first)
                same(self, is_one_rule_away(first, other), wanted)
                same(self, is_one_rule_away(first, other), distance(first, other) == 1)
                told.add((wanted, other == first))
        self.assertEqual(len(told), 3)

    def test_a_letter_can_be_taken_out(self):
        for first, second in alike_pairs(222, 60):
            alike = any(left_out(first, letter) == left_out(second, letter) for letter in first[0])
            same(self, is_one_rule_away(first, second), alike and first != second)

    def test_equal_orders_and_orders_of_one_letter(self):
        same(self, is_one_rule_away(ONE, ONE), False)
        for order in some_orders(223, 48):
            same(self, is_one_rule_away(order, order), False)

    def test_a_strength_alone(self):
        same(self, is_one_rule_away(FIRST, (("a", "b", "c"), (1, 2))), True)
        same(self, is_one_rule_away(FIRST, (("a", "b", "c"), (2, 1))), True)
        same(self, is_one_rule_away(FIRST, (("a", "b", "c"), (2, 2))), False)
        same(self, is_one_rule_away((("a", "b", "c", "d"), (1, 2, 1)), (("a", "b", "c", "d"), (1, 3, 1))), True)
        same(self, is_one_rule_away((("a", "b", "c", "d"), (2, 1, 2)), (("a", "b", "c", "d"), (2, 3, 2))), False)
        same(self, is_one_rule_away((("a", "b"), (1,)), (("a", "b"), (2,))), True)
        same(self, is_one_rule_away((("a", "b"), (1,)), (("b", "a"), (3,))), True)


class Way(unittest.TestCase):
    def test_the_shortest_rules_one_by_one(self):
        for first, second in alike_pairs(224, 72):
            wanted = [first]
            for rule in shortest_rules(first, second):
                wanted.append(known_result(wanted[-1], rule))
            found = way(first, second)
            same(self, found, tuple(wanted))
            same(self, found[-1], second)
            same(self, all(one != other for one, other in zip(found, found[1:])), True)
            same(self, len(found) - 1, len(first[0]) - len(reckoned_longest(first, second)[0]))

    def test_each_order_lies_between(self):
        for first, second in alike_pairs(225, 36, 9):
            for order in way(first, second):
                same(self, lies_between(order, first, second), True)

    def test_equal_orders(self):
        for order in [ONE] + list(some_orders(226, 24)):
            same(self, way(order, order), (order,))
            same(self, is_shortest_row(order, order, (order,), levels_for(order, order)), True)

    def test_twelve_letters(self):
        second = (TWELVE[::-1], (1,) * 11)
        found = way(ALIKE_TWELVE, second)
        same(self, len(found), 12)
        same(self, len(set(found)), 12)
        same(self, is_shortest_row(ALIKE_TWELVE, second, found, (1,) * 12), True)


class Judge(unittest.TestCase):
    def test_ways_with_the_levels_for_both(self):
        for first, second in alike_pairs(227, 72):
            row, levels = way(first, second), levels_for(first, second)
            same(self, is_shortest_row(first, second, row, levels), True)
            same(self, is_shortest_row(second, first, row[::-1], levels_for(second, first)), True)

    def test_each_part_of_the_row_changed(self):
        told = {True: 0, False: 0}
        for first, second in alike_pairs(228, 18, 6):
            row, levels = way(first, second), levels_for(first, second)
            rows = [row[:at] + row[at + 1:] for at in range(len(row))]
            rows += [row[:at] + row[at:at + 1] + row[at:] for at in range(len(row))]
            rows += [row[:at] + (row[at + 1], row[at]) + row[at + 2:] for at in range(len(row) - 1)]
            rows += [row[::-1], (), row + row[:1], row + row[-2::-1] + row[1:], (second,), (first,), (first, second)]
            for rows_of_orders in rows:
                wanted = reckoned_judge(first, second, rows_of_orders, levels)
                same(self, is_shortest_row(first, second, rows_of_orders, levels), wanted)
                told[wanted] += 1
            for at, order in enumerate(row):
                for other in other_orders(order):
                    changed = row[:at] + (other,) + row[at + 1:]
                    valid = is_order_on(other, first[0])
                    wanted = valid and reckoned_judge(first, second, changed, levels)
                    same(self, is_shortest_row(first, second, changed, levels), wanted)
                    told[wanted] += 1
        self.assertGreater(told[True], 50)
        self.assertGreater(told[False], 500)

    def test_each_of_the_levels_changed(self):
        told = {True: 0, False: 0}
        for first, second in alike_pairs(229, 21, 7):
            row, levels = way(first, second), levels_for(first, second)
            for at in range(len(levels)):
                for change in (-2, -1, 1, 2, 30):
                    changed = levels[:at] + (levels[at] + change,) + levels[at + 1:]
                    wanted = reckoned_judge(first, second, row, changed)
                    same(self, is_shortest_row(first, second, row, changed), wanted)
                    told[wanted] += 1
                for wrong in (True, None, "1", 1.0, (1,), -1, 0):
                    changed = levels[:at] + (wrong,) + levels[at + 1:]
                    same(self, is_shortest_row(first, second, row, changed), False)
                same(self, is_shortest_row(first, second, row, levels[:at] + levels[at + 1:]), False)
            for changed in (levels + (1,), levels + levels[-1:], list(levels), levels[:-1], ()):
                same(self, is_shortest_row(first, second, row, changed), False)
        self.assertGreater(told[True], 10)
        self.assertGreater(told[False], 100)

    def test_longer_rows(self):
        # One step more and a greatest level of one less do not go together, because no such levels are right.
        first, second = FIRST, (("a", "c", "b"), (1, 1))
        same(self, is_shortest_row(first, second, (first, second), (1, 2, 2)), True)
        longer = (first, (("c", "a", "b"), (1, 1)), second)
        self.assertTrue(reckoned_row(first, second, longer))
        same(self, is_shortest_row(first, second, longer, (1, 2, 2)), False)
        same(self, is_shortest_row(first, second, longer, (1, 1, 1)), False)
        same(self, is_shortest_row(first, second, (first, second), (1, 3, 3)), False)
        same(self, is_shortest_row(first, second, (first, second), (1, 2, 3)), False)
        same(self, is_shortest_row(FIRST, FIRST, (FIRST, MIDDLE, FIRST), (1, 2, 3)), False)

    def test_orders_of_a_row_that_is_taken_lie_between(self):
        chance = random.Random(230)
        taken = 0
        for _ in range(300):
            first = some_order(chance, NAMES[:4], 3)
            middle = chance.choice(sorted(near_to(first)))
            second = chance.choice(sorted(near_to(middle)))
            if is_shortest_row(first, second, (first, middle, second), levels_for(first, second)):
                taken += 1
                same(self, lies_between(middle, first, second), True)
                same(self, distance(first, second), 2)
            else:
                self.assertLess(distance(first, second), 2)
        self.assertGreater(taken, 50)

    def test_one_letter(self):
        same(self, is_shortest_row(ONE, ONE, (ONE,), (1,)), True)
        for row, levels in (((ONE, ONE), (1,)), ((), (1,)), ((ONE,), (0,)), ((ONE,), (2,)), ((ONE,), ()),
                            ((ONE, (("b",), ())), (1,)), ((ONE,), (True,)), ((EMPTY,), (1,))):
            same(self, is_shortest_row(ONE, ONE, row, levels), False)

    def test_every_value(self):
        same(self, is_shortest_row(FIRST, SECOND, ROW, LEVELS), True)
        for value in OTHER_VALUES + WRONG_ORDERS + (FIRST, list(ROW), {FIRST: 1}, ROW[1], (ROW,)):
            same(self, is_shortest_row(FIRST, SECOND, value, LEVELS), False)
            same(self, is_shortest_row(FIRST, SECOND, ROW, value), False)
            for at in range(3):
                same(self, is_shortest_row(FIRST, SECOND, ROW[:at] + (value,) + ROW[at + 1:], LEVELS),
                     value == ROW[at])
                same(self, is_shortest_row(FIRST, SECOND, ROW, LEVELS[:at] + (value,) + LEVELS[at + 1:]),
                     repr(value) == "1")


def is_order_on(value, letters):
    """True if a value that other_orders gives is an order of just these letters."""
    row, strengths = value
    if not isinstance(row, tuple) or sorted(row) != sorted(letters) or len(strengths) != len(row) - 1:
        return False
    return all(repr(strength) in ("1", "2", "3") for strength in strengths)


class WrongArguments(unittest.TestCase):
    def test_each_function(self):
        first = ("first", FIRST, WRONG_ORDERS + (EMPTY,))
        second = ("second", SECOND, WRONG_ORDERS + NOT_OF_THESE)
        functions = [is_one_rule_away, way]
        for row, levels in ((ROW, LEVELS), (None, True), ((), ())):
            functions.append(lambda one, other, told=(row, levels): is_shortest_row(one, other, *told))
        for function in functions:
            assert_bad_values(self, function, [first, second])
            assert_bad_value(self, "first", function, (EMPTY, EMPTY))
            assert_bad_value(self, "second", function, (ONE, FIRST))
            assert_bad_value(self, "second", function, (FIRST, ONE))


class Printed(unittest.TestCase):
    def test_point_116(self):
        same(self, shortest_rules(FIRST, SECOND), (("after", "c", 1, "b"), ("after", "b", 1, "a")))

    def test_interface(self):
        assert_printed(self, '''
>>> from fewestrules.steps import is_one_rule_away, is_shortest_row, way
>>> first = (("a", "b", "c"), (1, 1))
>>> second = (("c", "b", "a"), (1, 1))
>>> way(first, second)
((('a', 'b', 'c'), (1, 1)), (('a', 'c', 'b'), (1, 1)), (('c', 'b', 'a'), (1, 1)))
>>> is_one_rule_away(first, second), is_one_rule_away(first, (("a", "b", "c"), (1, 2)))
(False, True)
>>> is_shortest_row(first, second, way(first, second), (1, 1, 1))
True
''')
