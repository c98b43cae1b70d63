"""Points 2, 55 to 58, 64 and 65: rules that can be exchanged, and orders that show that two cannot be."""

import random
import unittest
from itertools import product

from fewestrules.exchange import can_exchange, first_showing, shows
from fewestrules.rules import can_apply, led
from tests.helpers import (GOOD_RULE, NAMES, OTHER_VALUES, TWELVE, WRONG_ORDERS, WRONG_RULES, assert_bad_values,
                           assert_printed, orders_of, orders_within, reckoned_can, reckoned_first,
                           reckoned_letters, reckoned_or_none, reckoned_shows, rules_for, same, some_order)

THREE = ("a", "b", "c")
FOUR = ("a", "b", "c", "d")


def rules_over(letters):
    """All rules over these letters."""
    return [rule for letter in letters for rule in rules_for(letters, letter)]


def rules_of_four_letters():
    """Pairs of rules with four different letters, in several sequences of these letters."""
    for a, b, x, y in (("a", "b", "c", "d"), ("d", "b", "a", "c"), ("z", "y1", "y", "aa")):
        for one_side, one_strength, side, strength in product(("after", "before"), (1, 2, 3), repeat=2):
            yield (one_side, a, one_strength, x), (side, b, strength, y)


class Exchanged(unittest.TestCase):
    def test_each_pair_over_three_letters(self):
        kinds = set()
        for one, other in product(rules_over(THREE), repeat=2):
            wanted = reckoned_can(one, other)
            same(self, can_exchange(one, other), wanted)
            kinds.add((wanted, one[0] == other[0], one[2] == other[2], one[1] == other[1], one[3] == other[3]))
        self.assertGreater(len(kinds), 15)

    def test_each_pair_of_four_letters(self):
        for one, other in rules_of_four_letters():
            same(self, can_exchange(one, other), reckoned_can(one, other))
            same(self, can_exchange(other, one), reckoned_can(one, other))

    def test_against_the_results(self):
        orders = list(orders_within(THREE))
        for one, other in product(rules_over(THREE), repeat=2):
            shown = any(reckoned_shows(one, other, order) for order in orders)
            self.assertLessEqual(shown, not can_exchange(one, other))
        orders = list(orders_within(FOUR))
        for one, other in list(rules_of_four_letters())[:36]:
            shown = any(reckoned_shows(one, other, order) for order in orders)
            same(self, can_exchange(one, other), not shown)

    def test_exchanged_rules_have_the_same_result(self):
        chance = random.Random(80)
        many = 0
        for turn in range(600):
            order = some_order(chance, NAMES, turn % 12 + 1)
            anchors = [chance.choice(order[0]) for _ in range(2)]
            one, other = [(chance.choice(("after", "before")), anchor, chance.choice((1, 2, 3)),
                           chance.choice([letter for letter in NAMES if letter != anchor])) for anchor in anchors]
            found, turned_round = reckoned_or_none(order, (one, other)), reckoned_or_none(order, (other, one))
            if can_exchange(one, other) and found is not None and turned_round is not None:
                many += 1
                same(self, led(order, (one, other)), found)
                same(self, led(order, (other, one)), found)
        self.assertGreater(many, 150)

    def test_equal_rules(self):
        for rule in rules_over(THREE):
            same(self, can_exchange(rule, rule), True)
            same(self, first_showing(rule, rule), None)

    def test_sentence_by_sentence(self):
        rule = ("after", "a", 3, "x")
        for other, wanted in ((("after", "b", 3, "x"), False), (("after", "a", 2, "x"), False),
                              (("before", "a", 3, "x"), False), (("after", "x", 3, "y"), False),
                              (("after", "b", 3, "a"), False), (("after", "b", 3, "y"), True),
                              (("after", "a", 3, "y"), False), (("after", "a", 2, "y"), True),
                              (("before", "a", 3, "y"), True), (("before", "b", 3, "y"), True)):
            same(self, can_exchange(rule, other), wanted)
            same(self, can_exchange(other, rule), wanted)
        for strength in (1, 2):
            for other, wanted in ((("after", "b", strength, "y"), False), (("after", "a", strength, "y"), False),
                                  (("before", "b", strength, "y"), True), (("after", "b", 3, "y"), True)):
                same(self, can_exchange(("after", "a", strength, "x"), other), wanted)


class FirstShowing(unittest.TestCase):
    def test_each_pair_over_three_letters(self):
        for one, other in product(rules_over(THREE), repeat=2):
            found = first_showing(one, other)
            same(self, found, reckoned_first(one, other))
            self.assertEqual(found is None, can_exchange(one, other))

    def test_each_pair_of_four_letters(self):
        for one, other in rules_of_four_letters():
            same(self, first_showing(one, other), reckoned_first(one, other))
            same(self, first_showing(other, one), reckoned_first(other, one))

    def test_two_rules_with_two_letters(self):
        for letters in (("a", "b"), ("b", "a"), ("a", "c"), ("c", "b"), ("x", "a"), ("b", "x"), ("x", "y"), ("c", "x")):
            for one, other in product(rules_over(letters), repeat=2):
                if one != other:
                    found = first_showing(one, other)
                    same(self, found, reckoned_first(one, other))
                    third = [letter for letter in THREE if letter not in letters][0]
                    self.assertEqual(sorted(found[0]), sorted(letters + (third,)))

    def test_the_letters_are_compared_by_their_sequence_in_the_rules(self):
        for names in (("z", "m", "b", "a"), ("b", "a", "z", "m"), ("a1", "a", "b", "a0")):
            a, x, b, y = names
            for strength in (1, 2):
                one, other = ("after", a, strength, x), ("after", b, strength, y)
                same(self, first_showing(one, other), reckoned_first(one, other))
                one, other = ("before", a, strength, x), ("before", a, strength, y)
                same(self, first_showing(one, other), reckoned_first(one, other))

    def test_what_it_finds_is_evidence(self):
        for one, other in product(rules_over(FOUR)[::5], repeat=2):
            found = first_showing(one, other)
            if found is not None:
                same(self, shows(one, other, found), True)
                same(self, shows(other, one, found), True)


class Shows(unittest.TestCase):
    def test_all_orders_of_three_letters(self):
        orders = list(orders_within(THREE))
        told = set()
        for at, (one, other) in enumerate(product(rules_over(THREE), repeat=2)):
            for order in orders[at % 7::7]:
                wanted = reckoned_shows(one, other, order)
                same(self, shows(one, other, order), wanted)
                told.add(wanted)
        self.assertEqual(told, {True, False})

    def test_orders_of_up_to_twelve_letters(self):
        chance = random.Random(81)
        told = []
        for turn in range(600):
            order = some_order(chance, NAMES, turn % 12 + 1)
            anchors = [chance.choice(order[0]) for _ in range(2)]
            one, other = [(side, anchor, chance.choice((1, 2, 3)),
                           chance.choice([letter for letter in NAMES if letter != anchor]))
                          for side, anchor in zip(chance.choice((("after", "after"), ("before", "before"))), anchors)]
            wanted = reckoned_shows(one, other, order)
            same(self, shows(one, other, order), wanted)
            told.append(wanted)
        self.assertGreater(told.count(True), 50)

    def test_the_anchors_have_to_be_there(self):
        one, other = ("after", "a", 1, "x"), ("after", "x", 1, "y")
        same(self, can_apply((("a", "b"), (1,)), one), True)
        same(self, shows(one, other, (("a", "b"), (1,))), False)
        same(self, shows(one, other, (("x", "b"), (1,))), False)
        same(self, shows(one, other, ((), ())), False)
        same(self, shows(one, other, (("x", "b", "a"), (1, 1))), True)

    def test_both_sequences_have_to_be_applied(self):
        one, other = ("after", "a", 1, "x"), ("after", "a", 1, "y")
        eleven = (TWELVE[:11], (1,) * 10)
        ten = (TWELVE[:10], (1,) * 9)
        same(self, shows(one, other, eleven), False)
        same(self, shows(one, other, ten), True)
        same(self, shows(one, other, (TWELVE[:10] + ("x",), (1,) * 10)), True)
        same(self, shows(one, other, (TWELVE, (1,) * 11)), False)
        same(self, shows(one, other, (TWELVE[:10] + ("x", "y"), (1,) * 11)), True)

    def test_equal_results(self):
        same(self, shows(("after", "a", 1, "x"), ("after", "b", 1, "y"), (("a", "b"), (1,))), False)
        same(self, shows(("after", "a", 1, "x"), ("after", "b", 1, "y"), (("a", "b"), (2,))), True)
        same(self, shows(("after", "a", 2, "x"), ("after", "b", 2, "y"), (("a", "b"), (2,))), False)
        same(self, shows(("after", "a", 2, "x"), ("after", "b", 2, "y"), (("a", "b"), (3,))), True)

    def test_every_value(self):
        one, other = ("after", "a", 1, "x"), ("after", "a", 1, "y")
        for value in OTHER_VALUES + WRONG_ORDERS:
            same(self, shows(one, other, value), False)
            same(self, shows(one, one, value), False)
        same(self, shows(one, other, (("a", "b"), (True,))), False)
        same(self, shows(one, other, [("a", "b"), (1,)]), False)


class WrongArguments(unittest.TestCase):
    def test_each_function(self):
        rules = [("one", GOOD_RULE, WRONG_RULES), ("other", ("before", "b", 2, "a"), WRONG_RULES)]
        for function in (can_exchange, first_showing):
            assert_bad_values(self, function, rules)
        for order in ((("a", "b"), (1,)), ((), ()), None, True, (("a", "b"), ())):
            assert_bad_values(self, lambda one, other: shows(one, other, order), rules)


class Printed(unittest.TestCase):
    def test_point_65(self):
        one, other = ("after", "a", 1, "x"), ("after", "a", 1, "y")
        same(self, led((("a",), ()), (one, other))[0], ("a", "y", "x"))
        same(self, led((("a",), ()), (other, one))[0], ("a", "x", "y"))
        same(self, can_exchange(one, other), False)

    def test_interface(self):
        assert_printed(self, '''
>>> from fewestrules.exchange import can_exchange, first_showing, shows
>>> one, other = ("after", "a", 1, "x"), ("after", "a", 1, "y")
>>> can_exchange(one, other), can_exchange(one, ("after", "a", 2, "y"))
(False, True)
>>> first_showing(one, other)
(('a', 'x', 'y'), (1, 1))
>>> shows(one, other, (("a",), ()))
True
''')
