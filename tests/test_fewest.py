"""Points 2, 43, 44, 46 to 54: orders that can be reached, the fewest rules, and the judge of answers."""

import random
import unittest
from itertools import combinations, permutations, product

from fewestrules.common import accepts_levels, is_common, levels_for, longest_common
from fewestrules.fewest import answer_for, can_reach, distance, is_fewest, moved_letters, shortest_rules, told
from fewestrules.keeping import keeping_rules
from fewestrules.rules import is_rule_list, led
from tests.helpers import (ALIKE_TWELVE, MANY_LONGEST, NAMES, OTHER_VALUES, TWELVE, WRONG_ORDERS, WRONG_RULE_LISTS,
                           alike_pairs, assert_bad_value, assert_bad_values, assert_printed, left_out, orders_of,
                           orders_within, put_behind, reachable_pairs, reckoned_led, reckoned_longest,
                           reckoned_result, reckoned_right, rules_for, same, some_order, some_orders, some_pairs,
                           some_rules, steps_from, turned)

EMPTY = ((), ())
FIRST = (("a", "b", "c", "d"), (1, 1, 1))
SECOND = (("b", "d", "a", "c"), (1, 2, 1))
FEWEST = (("after", "d", 2, "a"), ("after", "a", 1, "c"))
FOUR = ("a", "b", "c", "d")


def small_steps():
    """Orders with all that can be made of them by rules for up to four letters, and the numbers of rules."""
    for first in list(orders_within(("a", "b", "c")))[::5]:
        yield first, ("a", "b", "c"), steps_from(first, ("a", "b", "c"))
    for first in ((("c",), ()), (("d", "a"), (3,)), (("b", "d", "c"), (2, 3)), (("c", "a", "d", "b"), (3, 1, 2))):
        yield first, FOUR, steps_from(first, FOUR)


class Reached(unittest.TestCase):
    def test_against_all_rule_lists_of_small_orders(self):
        for first, letters, steps in small_steps():
            for second in orders_within(letters):
                same(self, can_reach(first, second), second in steps)
                same(self, distance(first, second), steps.get(second))

    def test_no_letters(self):
        same(self, can_reach(EMPTY, EMPTY), True)
        for order in list(orders_within(("a", "b")))[1:] + list(some_orders(60, 24)):
            same(self, can_reach(EMPTY, order), False)
            same(self, can_reach(order, EMPTY), False)
            for function in (distance, shortest_rules, moved_letters, answer_for):
                same(self, function(EMPTY, order), None)
                same(self, function(order, EMPTY), None)

    def test_one_letter(self):
        one = (("a",), ())
        same(self, can_reach(one, one), True)
        same(self, can_reach(one, (("b",), ())), False)
        for order in some_orders(61, 48):
            same(self, can_reach(one, order), "a" in order[0])
            same(self, can_reach(order, one), order == one)

    def test_twelve_letters(self):
        for first, second in some_pairs(62, 200):
            same(self, can_reach(first, second), set(first[0]) <= set(second[0]))
        same(self, can_reach(ALIKE_TWELVE, (TWELVE[::-1], (3,) * 11)), True)
        same(self, can_reach(ALIKE_TWELVE, (TWELVE[1:] + ("m",), (1,) * 11)), False)
        same(self, can_reach(ALIKE_TWELVE, (TWELVE[:11], (1,) * 10)), False)
        same(self, can_reach((TWELVE[:11], (1,) * 10), ALIKE_TWELVE), True)

    def test_none_where_nothing_leads(self):
        many = 0
        for first, second in some_pairs(63, 150):
            if not set(first[0]) <= set(second[0]):
                many += 1
                for function in (distance, shortest_rules, moved_letters, answer_for):
                    same(self, function(first, second), None)
        self.assertGreater(many, 20)


class Fewest(unittest.TestCase):
    def assert_shortest(self, first, second):
        kept = reckoned_longest(first, second)[0]
        rules = shortest_rules(first, second)
        same(self, is_rule_list(rules), True)
        same(self, led(first, rules), second)
        same(self, reckoned_led(first, rules), second)
        same(self, rules, keeping_rules(first, second, kept))
        moved = tuple(letter for letter in second[0] if letter not in kept)
        same(self, moved_letters(first, second), moved)
        self.assertEqual(sorted(rule[3] for rule in rules), sorted(moved))
        same(self, distance(first, second), len(rules))

    def test_small_orders(self):
        for first, _, steps in small_steps():
            for second, many in steps.items():
                same(self, len(shortest_rules(first, second)), many)
                if first[0]:
                    self.assert_shortest(first, second)

    def test_large_orders(self):
        for first, second in reachable_pairs(64, 300):
            self.assert_shortest(first, second)
        for first, second, _ in MANY_LONGEST:
            self.assert_shortest(first, second)
            self.assert_shortest(second, first)

    def test_no_letters_need_no_rules(self):
        same(self, shortest_rules(EMPTY, EMPTY), ())
        same(self, distance(EMPTY, EMPTY), 0)
        same(self, moved_letters(EMPTY, EMPTY), ())
        same(self, answer_for(EMPTY, EMPTY), ((), ()))

    def test_one_letter_and_twelve(self):
        for second in (ALIKE_TWELVE, (TWELVE[::-1], (1, 2, 3) * 3 + (3, 1))):
            for letter in ("a", "f", "l"):
                same(self, distance(((letter,), ()), second), 11)
                self.assert_shortest(((letter,), ()), second)
        same(self, distance(ALIKE_TWELVE, (TWELVE[::-1], (1,) * 11)), 11)
        same(self, distance(ALIKE_TWELVE, (TWELVE, (2,) * 11)), 11)
        same(self, shortest_rules((("a",), ()), (("a",), ())), ())

    def test_no_list_with_fewer_rules_of_two_letters(self):
        for first in orders_of(("a", "b")):
            near = {reckoned_result(first, rule) for letter in ("a", "b", "c") for rule in rules_for(first[0], letter)}
            for second in orders_within(("a", "b", "c")):
                many = distance(first, second)
                if many is not None:
                    self.assertEqual(many <= 1, second in near or second == first)
                    self.assertEqual(many == 0, second == first)


class Sentences(unittest.TestCase):
    def test_what_is_not_moved_is_a_common_list(self):
        chance = random.Random(65)
        for order in some_orders(65, 150):
            rules = some_rules(chance, order, chance.choice((1, 2, 4, 8, 20)))
            second = led(order, rules)
            left = tuple(letter for letter in order[0] if letter not in [rule[3] for rule in rules])
            same(self, is_common(order, second, left), True)
            self.assertLessEqual(distance(order, second), len({rule[3] for rule in rules}))
            same(self, can_reach(order, second), True)

    def test_same_letters(self):
        for first, second in alike_pairs(66, 80):
            many = distance(first, second)
            self.assertEqual(many == 0, first == second)
            same(self, distance(second, first), many)
            same(self, distance(turned(first), turned(second)), many)
            self.assertLessEqual(many, len(first[0]) - 1)

    def test_a_third_order(self):
        chance = random.Random(68)
        for first, second in alike_pairs(68, 60):
            third = some_order(chance, first[0], len(first[0]))
            by_way = distance(first, second) + distance(second, third)
            self.assertLessEqual(distance(first, third), by_way)
        orders = list(orders_of(("a", "b", "c")))
        table = {(one, other): distance(one, other) for one in orders for other in orders}
        for one, other, third in product(orders[::2], orders[::3], orders):
            self.assertLessEqual(table[one, third], table[one, other] + table[other, third])

    def test_all_strengths_1(self):
        for row in permutations(FOUR):
            first, second = (FOUR, (1, 1, 1)), (row, (1, 1, 1))
            for many in range(5):
                for letters in combinations(FOUR, many):
                    same(self, is_common(first, second, letters), sorted(letters, key=row.index) == list(letters))
            rising = [letters for many in range(5) for letters in combinations(FOUR, many)
                      if sorted(letters, key=row.index) == list(letters)]
            same(self, distance(first, second), 4 - max(len(letters) for letters in rising))

    def test_letters_taken_out_of_both(self):
        for first, second in alike_pairs(70, 60):
            many = distance(first, second)
            left = first, second
            for letter in first[0][::-2]:
                if len(left[0][0]) > 1:
                    left = left_out(left[0], letter), left_out(left[1], letter)
                    self.assertLessEqual(distance(*left), many)

    def test_a_new_letter_behind_both(self):
        for first, second in alike_pairs(71, 60, 11):
            same(self, distance(put_behind(first, "zz", 1), put_behind(second, "zz", 1)), distance(first, second))


class Answers(unittest.TestCase):
    def test_what_is_told_is_accepted(self):
        for first, second in reachable_pairs(72, 250):
            answer = answer_for(first, second)
            same(self, answer, (shortest_rules(first, second), levels_for(first, second)))
            same(self, is_fewest(first, second, *answer), True)
        for first, second, _ in MANY_LONGEST:
            same(self, is_fewest(first, second, *answer_for(first, second)), True)
        same(self, is_fewest(EMPTY, EMPTY, (), ()), True)

    def test_each_common_list_that_is_a_longest_one(self):
        for first, second, _ in MANY_LONGEST:
            for kept in reckoned_longest(first, second)[:20]:
                rules = keeping_rules(first, second, kept)
                same(self, is_fewest(first, second, rules, levels_for(first, second)), True)

    def test_all_answers_of_small_orders(self):
        first, second = (("a", "b"), (1,)), (("b", "c", "a"), (2, 1))
        rules = [rule for letter in ("a", "b", "c") for rule in rules_for(("a", "b", "c"), letter)]
        lists = [()] + [(one,) for one in rules] + [(one, other) for one in rules for other in rules[::2]]
        accepted = 0
        for given in lists:
            leads = self.leads(first, second, given)
            for levels in ((1, 0, 1), (1, 0, 2), (2, 0, 1), (1, 1, 1), (0, 0, 1), (2, 0, 2), (1, 0, 0), (3, 0, 1)):
                right = reckoned_right(first, second, levels)
                wanted = leads and right and len(given) + max(levels) == 3
                same(self, is_fewest(first, second, given, levels), wanted)
                accepted += wanted
        self.assertGreater(accepted, 2)

    def leads(self, first, second, rules):
        order = first
        for rule in rules:
            if rule[1] not in order[0]:
                return False
            order = reckoned_result(order, rule)
        return order == second

    def test_changed_rules(self):
        chance = random.Random(73)
        for first, second in reachable_pairs(73, 80):
            rules, levels = answer_for(first, second)
            for place, (side, anchor, strength, letter) in enumerate(rules):
                changed = [(turned_side(side), anchor, strength, letter), (side, anchor, strength % 3 + 1, letter),
                           (side, "zz", strength, letter), (side, anchor, strength, "zz"), None]
                changed += list(rules_for(second[0], letter))[chance.randrange(9)::9]
                for rule in changed:
                    given = rules[:place] + (rule,) + rules[place + 1:]
                    wanted = rule is not None and self.leads(first, second, given)
                    same(self, is_fewest(first, second, given, levels), wanted)
                same(self, is_fewest(first, second, rules[:place] + rules[place + 1:], levels), False)
                same(self, is_fewest(first, second, rules + (rules[place],), levels), False)
            same(self, is_fewest(first, second, list(rules), levels), False)

    def test_changed_levels(self):
        for first, second in reachable_pairs(74, 80):
            rules, levels = answer_for(first, second)
            for place in range(len(levels)):
                for change in (-1, 1, 20):
                    given = levels[:place] + (levels[place] + change,) + levels[place + 1:]
                    wanted = reckoned_right(first, second, given) and max(given) == max(levels)
                    same(self, is_fewest(first, second, rules, given), wanted)
                for value in (None, True, "1", 1.0, (1,)):
                    given = levels[:place] + (value,) + levels[place + 1:]
                    same(self, is_fewest(first, second, rules, given), False)
            same(self, is_fewest(first, second, rules, levels[:-1]), False)
            same(self, is_fewest(first, second, rules, levels + (1,)), False)
            same(self, is_fewest(first, second, rules, list(levels)), False)

    def test_right_parts_that_do_not_add_up(self):
        more = (("after", "c", 1, "a"),) + FEWEST
        same(self, led(FIRST, more), SECOND)
        same(self, is_fewest(FIRST, SECOND, more, (1, 2, 1, 2)), False)
        same(self, is_fewest(FIRST, SECOND, FEWEST, (1, 2, 1, 2)), True)
        same(self, is_fewest(FIRST, SECOND, FEWEST, (1, 2, 1, 3)), False)
        same(self, accepts_levels(FIRST, SECOND, (1, 2, 1, 3)), True)
        # Levels with the greatest one 1 would make up for a third rule, if they were right.
        same(self, is_fewest(FIRST, SECOND, more, (1, 1, 1, 1)), False)

    def test_other_letters_may_be_kept(self):
        for kept, wanted in ((("a", "c"), True), (("b", "c"), True), (("a",), False), (("d",), False)):
            rules = keeping_rules(FIRST, SECOND, kept)
            same(self, is_fewest(FIRST, SECOND, rules, (1, 2, 1, 2)), wanted)

    def test_orders_that_cannot_be_reached(self):
        for first, second in some_pairs(75, 60):
            if not set(first[0]) <= set(second[0]):
                for rules in ((), FEWEST):
                    same(self, is_fewest(first, second, rules, levels_for(first, second)), False)
        same(self, is_fewest(EMPTY, (("a",), ()), (), (0,)), False)
        same(self, is_fewest(EMPTY, (("a",), ()), (("after", "a", 1, "b"),), (0,)), False)
        same(self, is_fewest((("a",), ()), EMPTY, (), ()), False)

    def test_values_of_other_forms(self):
        for value in OTHER_VALUES + WRONG_RULE_LISTS:
            same(self, is_fewest(FIRST, SECOND, value, (1, 2, 1, 2)), False)
            same(self, is_fewest(FIRST, FIRST, value, (1, 2, 3, 4)), False)
            same(self, is_fewest(FIRST, FIRST, value, value), False)
        for value in OTHER_VALUES + ((), (1, 2, 1), "1212", {1: 2}):
            same(self, is_fewest(FIRST, SECOND, FEWEST, value), False)
        for value in OTHER_VALUES:
            same(self, is_fewest(EMPTY, EMPTY, (), value), False)
            same(self, is_fewest(EMPTY, EMPTY, value, ()), False)


def turned_side(side):
    return "before" if side == "after" else "after"


class Told(unittest.TestCase):
    def test_all_short_lists_of_small_orders(self):
        rules = [rule for letter in ("a", "b", "c") for rule in rules_for(("a", "b", "c"), letter)]
        words = set()
        for first in ((("a",), ()), (("b", "a"), (2,)), (("a", "c", "b"), (3, 2)), (("b", "c", "a"), (1, 1))):
            steps = steps_from(first, ("a", "b", "c"))
            for given in [()] + [(rule,) for rule in rules] + list(product(rules[::3], rules)):
                second = self.result(first, given)
                for other in list(steps)[::17] + [second or first]:
                    word = "fails"
                    if other == second:
                        word = "fewest" if len(given) == steps[second] else "leads"
                    same(self, told(first, other, given), word)
                    words.add((word, len(given)))
        self.assertEqual(len(words), 8)

    def result(self, order, rules):
        for rule in rules:
            if rule[1] not in order[0]:
                return None
            order = reckoned_result(order, rule)
        return order

    def test_lists_of_twenty_rules(self):
        chance = random.Random(76)
        for order in some_orders(76, 40, 2, 12):
            rules = some_rules(chance, order, 20)
            second = reckoned_led(order, rules)
            same(self, told(order, second, rules), "leads")
            same(self, told(order, second, shortest_rules(order, second)), "fewest")
            late = ("after", "zz", 1, "a")
            same(self, told(order, second, rules[:19] + (late,)), "fails")
            elsewhere = turned(second)
            self.assertNotEqual(elsewhere, second)
            same(self, told(order, elsewhere, rules), "fails")

    def test_rules_that_cannot_be_applied(self):
        same(self, told(EMPTY, EMPTY, (("after", "a", 1, "b"),)), "fails")
        same(self, told(EMPTY, EMPTY, ()), "fewest")
        same(self, told(FIRST, FIRST, (("after", "z", 1, "a"),)), "fails")
        full = (TWELVE, (1,) * 11)
        same(self, told(full, full, (("after", "a", 1, "m"),)), "fails")
        same(self, told(FIRST, EMPTY, ()), "fails")
        same(self, told(EMPTY, FIRST, ()), "fails")
        same(self, told(FIRST, FIRST, (("after", "a", 1, "b"),)), "leads")


class WrongArguments(unittest.TestCase):
    def test_each_function(self):
        orders = [("first", FIRST, WRONG_ORDERS), ("second", SECOND, WRONG_ORDERS)]
        for function in (can_reach, distance, shortest_rules, moved_letters, answer_for):
            assert_bad_values(self, function, orders)
        assert_bad_values(self, told, orders + [("rules", FEWEST, WRONG_RULE_LISTS)])
        for rules, levels in (((), ()), (None, None), (FEWEST, (1, 2, 1, 2)), (True, [])):
            assert_bad_values(self, lambda first, second: is_fewest(first, second, rules, levels), orders)

    def test_letters_of_keeping_rules(self):
        letters = ("letters", ("b", "d"), ((), ("d", "b"), ("z",), ["b", "d"], ("a", "b"), "bd", None, NAMES))
        assert_bad_values(self, keeping_rules, [("first", FIRST, WRONG_ORDERS), ("second", SECOND, WRONG_ORDERS),
                                                letters])

    def test_wrong_rules_come_before_what_fails(self):
        wrong = (("after", "z", 1, "y"), ("after", "a", 0, "b"))
        for second in (FIRST, SECOND, EMPTY):
            assert_bad_value(self, "rules", told, (FIRST, second, wrong))
            assert_bad_value(self, "rules", told, (EMPTY, second, (("after", "a", 1, "b"),) * 21))


class Printed(unittest.TestCase):
    def test_point_54(self):
        same(self, longest_common(FIRST, SECOND), ("b", "d"))
        same(self, distance(FIRST, SECOND), 2)
        same(self, led(FIRST, FEWEST), SECOND)
        first, second = (("p", "z"), (1,)), (("p", "y", "z"), (1, 3))
        words = {rule[0]: [] for rule in rules_for(("p", "z"), "y")}
        for rule in rules_for(("p", "z"), "y"):
            words[rule[0]].append(told(first, second, (rule,)))
        self.assertEqual(sorted(words), ["after", "before"])
        self.assertEqual(set(words["after"]), {"fails"})
        self.assertIn("fewest", words["before"])

    def test_interface(self):
        assert_printed(self, '''
>>> from fewestrules.fewest import can_reach, distance, is_fewest, moved_letters, shortest_rules, told
>>> from fewestrules.keeping import keeping_rules
>>> first = (("a", "b", "c", "d"), (1, 1, 1))
>>> second = (("b", "d", "a", "c"), (1, 2, 1))
>>> distance(first, second), moved_letters(first, second)
(2, ('a', 'c'))
>>> shortest_rules(first, second)
(('after', 'd', 2, 'a'), ('after', 'a', 1, 'c'))
>>> keeping_rules((("p", "z"), (1,)), (("p", "y", "z"), (1, 3)), ("p", "z"))
(('before', 'z', 3, 'y'),)
>>> told(first, second, shortest_rules(first, second)), told(first, second, ())
('fewest', 'fails')
>>> is_fewest(first, second, (("after", "d", 2, "a"), ("after", "a", 1, "c")), (1, 2, 1, 2))
True
>>> can_reach(first, (("a", "b"), (1,))), distance(first, (("a", "b"), (1,)))
(False, None)
''')
