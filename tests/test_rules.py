"""Points 2, 7, 20 to 25 and 29 to 31: rules and rule lists."""

import random
import unittest
from itertools import combinations

from fewestrules.errors import NotApplicable
from fewestrules.orders import is_order, without
from fewestrules.rules import applied, can_apply, is_rule, is_rule_list, led
from tests.helpers import (GOOD_RULE, NAMES, TWELVE, WRONG_LETTERS, WRONG_ORDERS, WRONG_RULE_LISTS, WRONG_RULES,
                           assert_bad_value, assert_bad_values, assert_printed, orders_of, orders_within,
                           reckoned_difference, reckoned_result, rules_for, same, some_orders, some_rules, turned)

FULL = (TWELVE, (1, 2, 3, 1, 2, 3, 1, 2, 3, 1, 2))


def tried():
    """Orders with rules that can be applied to them."""
    for order in orders_within(("a", "b", "c")):
        for letter in ("a", "b", "c", "d"):
            for rule in rules_for(order[0], letter):
                yield order, rule
    for order in some_orders(6, 60):
        outside = [letter for letter in NAMES if letter not in order[0]][:1 if len(order[0]) < 12 else 0]
        inside = sorted({order[0][0], order[0][len(order[0]) // 2], order[0][-1]})
        for letter in inside + outside:
            for rule in rules_for(order[0], letter):
                yield order, rule


def turned_rule(rule):
    return ("before" if rule[0] == "after" else "after",) + rule[1:]


class Forms(unittest.TestCase):
    def test_rules(self):
        for side in ("after", "before"):
            for strength in (1, 2, 3):
                for anchor, letter in (("a", "b"), ("b", "a"), ("abcdefghij12", "abcdefghij13"), ("a", "a1")):
                    same(self, is_rule((side, anchor, strength, letter)), True)

    def test_wrong_rules(self):
        for value in WRONG_RULES + (1.5, {}, {"a"}, object(), (), [()], ("after",) * 4):
            same(self, is_rule(value), False)

    def test_letters_of_another_form(self):
        for wrong in WRONG_LETTERS:
            same(self, is_rule(("after", wrong, 1, "x")), False)
            same(self, is_rule(("before", "x", 3, wrong)), False)

    def test_rule_lists(self):
        for many in range(0, 24):
            same(self, is_rule_list((GOOD_RULE,) * many), many <= 20)
        same(self, is_rule_list((GOOD_RULE, ("before", "x", 3, "a"))), True)

    def test_wrong_rule_lists(self):
        for value in WRONG_RULE_LISTS + (1.5, object(), {GOOD_RULE}):
            same(self, is_rule_list(value), False)
        for value in WRONG_RULES:
            for place in (0, 1, 2):
                rules = [GOOD_RULE] * 3
                rules[place] = value
                same(self, is_rule_list(tuple(rules)), False)


class CanBeApplied(unittest.TestCase):
    def assert_fails(self, order, rule, why):
        same(self, can_apply(order, rule), False)
        with self.assertRaises(NotApplicable) as caught:
            applied(order, rule)
        same(self, (caught.exception.index, caught.exception.why), (0, why))
        with self.assertRaises(NotApplicable) as caught:
            led(order, (rule,))
        same(self, (caught.exception.index, caught.exception.why), (0, why))

    def test_the_anchor_has_to_be_there(self):
        for order in some_orders(7, 60):
            outside = [letter for letter in NAMES if letter not in order[0]]
            for rule in rules_for(outside[:1], order[0][0]):
                self.assert_fails(order, rule, "anchor")
            for rule in rules_for(outside[:1], outside[1]):
                self.assert_fails(order, rule, "anchor")
        self.assert_fails(((), ()), ("after", "a", 1, "b"), "anchor")

    def test_twelve_letters_are_enough(self):
        for rule in rules_for(TWELVE, "m"):
            self.assert_fails(FULL, rule, "full")
        for letter in TWELVE:
            for rule in rules_for(TWELVE, letter):
                same(self, can_apply(FULL, rule), True)
                self.assertEqual(len(applied(FULL, rule)[0]), 12)

    def test_the_anchor_before_the_room(self):
        self.assert_fails(FULL, ("after", "n", 1, "m"), "anchor")
        self.assert_fails(FULL, ("before", "m", 1, "a"), "anchor")

    def test_all_others_can_be_applied(self):
        for order, rule in tried():
            same(self, can_apply(order, rule), True)

    def test_a_twelfth_letter(self):
        order = (TWELVE[:11], (2,) * 10)
        for rule in rules_for(order[0], "l"):
            same(self, can_apply(order, rule), True)
            self.assertEqual(len(applied(order, rule)[0]), 12)

    def test_the_first_rule_that_cannot_be(self):
        order = (("a", "b"), (1,))
        good = ("after", "a", 1, "b")
        for place in range(20):
            rules = [good] * 20
            for at in range(place, 20):
                rules[at] = ("after", "z", 1, "b")
            with self.assertRaises(NotApplicable) as caught:
                led(order, tuple(rules))
            same(self, (caught.exception.index, caught.exception.why), (place, "anchor"))

    def test_a_list_that_fills_the_order(self):
        rules = tuple(("after", "a", 1, letter) for letter in NAMES[1:])
        with self.assertRaises(NotApplicable) as caught:
            led((("a",), ()), rules)
        same(self, (caught.exception.index, caught.exception.why), (11, "full"))
        with self.assertRaises(NotApplicable) as caught:
            led((("a",), ()), rules[:11] + (("before", "z", 1, "m"),))
        same(self, (caught.exception.index, caught.exception.why), (11, "anchor"))
        self.assertEqual(len(led((("a",), ()), rules[:11])[0]), 12)

    def test_an_anchor_that_an_earlier_rule_inserts(self):
        order = (("a",), ())
        rules = (("after", "a", 2, "b"), ("before", "b", 3, "c"))
        same(self, led(order, rules), (("a", "c", "b"), (2, 3)))
        with self.assertRaises(NotApplicable) as caught:
            led(order, rules[::-1])
        same(self, (caught.exception.index, caught.exception.why), (0, "anchor"))


class Results(unittest.TestCase):
    def test_the_only_order_of_point_23(self):
        for order in orders_of(("a", "b", "c")):
            for letter in ("c", "d"):
                candidates = list(orders_of(tuple(dict.fromkeys(order[0] + (letter,)))))
                for rule in rules_for(order[0], letter):
                    right = [found for found in candidates if self.is_result(order, rule, found)]
                    same(self, right, [applied(order, rule)])

    def is_result(self, order, rule, found):
        side, anchor, strength, letter = rule
        others = [x for x in order[0] if x != letter]
        if [x for x in found[0] if x != letter] != others:
            return False
        for one, other in combinations(others, 2):
            if reckoned_difference(found, one, other) != reckoned_difference(order, one, other):
                return False
        for z in others:
            apart = reckoned_difference(order, anchor, z)
            if reckoned_difference(found, letter, z) != min(strength, apart):
                return False
            if side == "after":
                behind = others.index(z) <= others.index(anchor) or apart > strength
            else:
                behind = not (others.index(z) >= others.index(anchor) or apart > strength)
            if (found[0].index(letter) > found[0].index(z)) != behind:
                return False
        return True

    def test_the_sentences_of_point_23(self):
        for order, rule in tried():
            found = applied(order, rule)
            self.assertTrue(is_order(found))
            self.assertEqual(sorted(found[0]), sorted(set(order[0]) | {rule[3]}))
            self.assertTrue(self.is_result(order, rule, found), (order, rule))
            same(self, found, reckoned_result(order, rule))

    def test_both_sides_of_an_only_letter(self):
        for strength in (1, 2, 3):
            same(self, applied((("a",), ()), ("after", "a", strength, "b")), (("a", "b"), (strength,)))
            same(self, applied((("a",), ()), ("before", "a", strength, "b")), (("b", "a"), (strength,)))
            for order in orders_of(("a", "b")):
                same(self, applied(order, ("after", "a", strength, "b")), (("a", "b"), (strength,)))
                same(self, applied(order, ("before", "a", strength, "b")), (("b", "a"), (strength,)))

    def test_equal_strength_is_not_weaker(self):
        order = (("a", "b", "c"), (2, 3))
        same(self, applied(order, ("after", "a", 2, "x")), (("a", "x", "b", "c"), (2, 2, 3)))
        same(self, applied(order, ("after", "a", 1, "x")), (("a", "b", "c", "x"), (2, 3, 1)))
        same(self, applied(order, ("before", "c", 2, "x")), (("a", "x", "b", "c"), (2, 2, 3)))
        same(self, applied(order, ("before", "c", 3, "x")), (("a", "b", "x", "c"), (2, 3, 3)))
        same(self, applied(order, ("before", "c", 1, "x")), (("x", "a", "b", "c"), (1, 2, 3)))

    def test_the_stronger_one_remains_where_a_letter_goes(self):
        for ahead in (1, 2, 3):
            for behind in (1, 2, 3):
                order = (("a", "b", "c", "d"), (ahead, behind, 1))
                wanted = (("a", "c", "d", "b"), (min(ahead, behind), 1, 2))
                same(self, applied(order, ("after", "d", 2, "b")), wanted)

    def test_a_third_letter_taken_out(self):
        for order, rule in tried():
            for third in order[0]:
                if third not in (rule[1], rule[3]):
                    late = without(applied(order, rule), (third,))
                    same(self, applied(without(order, (third,)), rule), late)

    def test_reversed(self):
        for order, rule in tried():
            same(self, applied(turned(order), turned_rule(rule)), turned(applied(order, rule)))

    def test_only_the_second_of_two_rules_has_an_effect(self):
        for order in orders_within(("a", "b", "c")):
            for letter in ("c", "d"):
                rules = list(rules_for(order[0], letter))
                for rule in rules:
                    wanted = applied(order, rule)
                    for earlier in rules:
                        same(self, led(order, (earlier, rule)), wanted)
        for order in some_orders(8, 24, 2, 12):
            rules = list(rules_for(order[0], order[0][-2]))
            for at, rule in enumerate(rules):
                same(self, led(order, (rules[at * 7 % len(rules)], rule)), applied(order, rule))


class Lists(unittest.TestCase):
    def tried_lists(self):
        chance = random.Random(9)
        for order in some_orders(9, 100):
            yield order, some_rules(chance, order, chance.choice((1, 2, 3, 5, 8, 13, 20)))

    def test_rule_by_rule(self):
        for order, rules in self.tried_lists():
            current = order
            for place, rule in enumerate(rules):
                same(self, led(order, rules[:place]), current)
                current = applied(current, rule)
            same(self, led(order, rules), current)

    def test_no_rules(self):
        for order in list(orders_within(("a", "b", "c"))) + list(some_orders(10, 24)):
            same(self, led(order, ()), order)

    def test_other_letters_stay(self):
        for order, rules in self.tried_lists():
            moved = [rule[3] for rule in rules]
            found = led(order, rules)
            left = tuple(letter for letter in order[0] if letter not in moved)
            self.assertEqual(tuple(letter for letter in found[0] if letter not in moved), left)
            for one, other in combinations(left, 2):
                self.assertEqual(reckoned_difference(found, one, other), reckoned_difference(order, one, other))


class WrongArguments(unittest.TestCase):
    def test_each_function(self):
        order = ("order", (("a", "b"), (1,)), WRONG_ORDERS)
        assert_bad_values(self, can_apply, [order, ("rule", ("after", "a", 1, "b"), WRONG_RULES)])
        assert_bad_values(self, applied, [order, ("rule", ("after", "a", 1, "b"), WRONG_RULES)])
        assert_bad_values(self, led, [order, ("rules", (("after", "a", 1, "b"),), WRONG_RULE_LISTS)])

    def test_bad_value_comes_before_not_applicable(self):
        for order in (((), ()), (("a",), ()), FULL):
            assert_bad_value(self, "rule", applied, (order, ("after", "z", 0, "m")))
            assert_bad_value(self, "rule", can_apply, (order, ("after", "z", 0, "m")))
            rules = (("after", "z", 1, "m"), ("after", "a", 0, "b"))
            assert_bad_value(self, "rules", led, (order, rules))
            assert_bad_value(self, "rules", led, (order, (("after", "z", 1, "m"),) * 21))
        assert_bad_value(self, "order", applied, ((("a", "b"), ()), ("after", "z", 1, "m")))
        assert_bad_value(self, "order", led, ((("a", "b"), ()), (("after", "z", 1, "m"),)))


class Printed(unittest.TestCase):
    def test_point_31(self):
        order = (("a", "b", "c"), (2, 1))
        same(self, applied(order, ("after", "a", 1, "d"))[0], ("a", "b", "d", "c"))
        same(self, applied(order, ("after", "a", 3, "d"))[0], ("a", "d", "b", "c"))

    def test_interface(self):
        assert_printed(self, '''
>>> from fewestrules.rules import applied, led
>>> order = (("a", "b", "c"), (2, 1))
>>> applied(order, ("after", "a", 1, "d"))
(('a', 'b', 'd', 'c'), (2, 1, 1))
>>> applied(order, ("after", "a", 3, "d"))
(('a', 'd', 'b', 'c'), (3, 2, 1))
>>> applied(order, ("before", "c", 3, "a"))
(('b', 'a', 'c'), (1, 3))
>>> led(order, (("after", "c", 2, "a"), ("before", "b", 1, "c")))
(('c', 'b', 'a'), (1, 1))
''')
