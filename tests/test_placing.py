"""Points 2, 26 to 28 and 30: where a rule puts its letter, rules alike, and ways back."""

import unittest

from fewestrules.errors import NotApplicable
from fewestrules.placing import alike, placed, way_back
from tests.helpers import (NAMES, TWELVE, WRONG_ORDERS, WRONG_RULES, assert_bad_value, assert_bad_values,
                           assert_printed, orders_within, reckoned_result, rules_for, same, some_orders)

ORDER = (("a", "b", "c"), (2, 1))
FULL = (TWELVE, (1, 2, 3, 1, 2, 3, 1, 2, 3, 1, 2))


def tried():
    """Orders with rules that can be applied to them, of letters that are in the order and new ones."""
    for order in orders_within(("a", "b", "c")):
        for letter in ("a", "b", "c", "d"):
            for rule in rules_for(order[0], letter):
                yield order, rule
    for turn, order in enumerate(some_orders(20, 48)):
        new = [letter for letter in NAMES if letter not in order[0]][:1 if len(order[0]) < 12 else 0]
        for letter in [order[0][turn % len(order[0])], order[0][-1]] + new:
            for rule in list(rules_for(order[0], letter))[turn % 5::5]:
                yield order, rule


class Placed(unittest.TestCase):
    def test_against_the_result(self):
        ends = set()
        for order, rule in tried():
            letters, strengths = reckoned_result(order, rule)
            index = letters.index(rule[3])
            around = (None,) + strengths + (None,)
            same(self, placed(order, rule), (index, around[index], around[index + 1]))
            ends.add((index > 0, index < len(letters) - 1))
        self.assertEqual(len(ends), 3)

    def test_at_both_ends_and_between(self):
        same(self, placed(ORDER, ("after", "c", 2, "a")), (2, 2, None))
        same(self, placed(ORDER, ("before", "a", 3, "c")), (0, None, 3))
        same(self, placed(ORDER, ("after", "a", 2, "d")), (1, 2, 2))
        same(self, placed(ORDER, ("before", "c", 3, "d")), (2, 1, 3))
        same(self, placed((("a",), ()), ("before", "a", 3, "b")), (0, None, 3))
        same(self, placed((("a",), ()), ("after", "a", 1, "b")), (1, 1, None))


class Alike(unittest.TestCase):
    def test_against_all_rules(self):
        for order, rule in tried():
            wanted = reckoned_result(order, rule)
            found = alike(order, rule)
            same(self, found, [x for x in rules_for(order[0], rule[3]) if reckoned_result(order, x) == wanted])
            self.assertIn(rule, found)

    def test_of_twelve_letters(self):
        for letter in ("a", "f", "l"):
            for rule in rules_for(FULL[0], letter):
                wanted = reckoned_result(FULL, rule)
                rules = [x for x in rules_for(FULL[0], letter) if reckoned_result(FULL, x) == wanted]
                same(self, alike(FULL, rule), rules)

    def test_the_sequence_is_that_of_the_order(self):
        order = (("c", "a", "b"), (2, 1))
        wanted = [("after", "c", 1, "d"), ("after", "a", 1, "d"), ("before", "b", 1, "d")]
        same(self, alike(order, ("before", "b", 1, "d")), wanted)
        order = (("c", "a", "b"), (1, 2))
        wanted = [("after", "c", 1, "d"), ("before", "a", 1, "d"), ("before", "b", 1, "d")]
        same(self, alike(order, ("before", "b", 1, "d")), wanted)

    def test_of_a_letter_of_the_order(self):
        order = (("c", "b", "a", "d"), (1, 3, 3))
        wanted = [("after", "b", 2, "c"), ("after", "a", 2, "c"), ("after", "d", 2, "c")]
        same(self, alike(order, ("after", "b", 2, "c")), wanted)

    def test_a_changed_list_changes_no_later_answer(self):
        rule = ("after", "b", 1, "d")
        wanted = [("after", "a", 1, "d"), ("after", "b", 1, "d"), ("before", "c", 1, "d")]
        found = alike(ORDER, rule)
        found.reverse()
        found.append(None)
        same(self, alike(ORDER, rule), wanted)
        found[:] = []
        same(self, alike(ORDER, rule), wanted)
        self.assertIsNot(alike(ORDER, rule), alike(ORDER, rule))


class WaysBack(unittest.TestCase):
    def test_against_all_rules(self):
        kinds = set()
        for order, rule in tried():
            found = way_back(order, rule)
            if rule[3] not in order[0]:
                self.assertIsNone(found)
                continue
            result = reckoned_result(order, rule)
            rules = rules_for(result[0], rule[3])
            leading = [x for x in rules if reckoned_result(result, x) == order]
            same(self, found, () if result == order else (leading[0],))
            kinds.add((len(found), len(leading) > 1))
        self.assertEqual(len(kinds), 4)

    def test_of_twelve_letters(self):
        for rule in rules_for(FULL[0], "g"):
            result = reckoned_result(FULL, rule)
            found = way_back(FULL, rule)
            self.assertEqual(found == (), result == FULL)
            for back in found:
                same(self, reckoned_result(result, back), FULL)

    def test_nothing_to_do(self):
        same(self, way_back(ORDER, ("after", "a", 2, "b")), ())
        same(self, way_back((("a", "b"), (3,)), ("before", "b", 3, "a")), ())

    def test_a_new_letter_has_no_way_back(self):
        same(self, way_back(ORDER, ("after", "a", 2, "d")), None)
        same(self, way_back((TWELVE[:11], (1,) * 10), ("after", "a", 2, "l")), None)


class WrongArguments(unittest.TestCase):
    def test_each_function(self):
        for function in (placed, alike, way_back):
            order = ("order", (("a", "b"), (1,)), WRONG_ORDERS)
            assert_bad_values(self, function, [order, ("rule", ("after", "a", 1, "b"), WRONG_RULES)])

    def test_bad_value_comes_before_not_applicable(self):
        for function in (placed, alike, way_back):
            assert_bad_value(self, "rule", function, (FULL, ("after", "z", 4, "m")))
            assert_bad_value(self, "order", function, ((("a",), (1,)), ("after", "z", 1, "m")))

    def test_not_applicable(self):
        tried_rules = ((((), ()), ("after", "a", 1, "b"), "anchor"), (ORDER, ("before", "z", 1, "a"), "anchor"),
                       ((("a",), ()), ("before", "b", 1, "a"), "anchor"), (FULL, ("after", "a", 1, "m"), "full"),
                       (FULL, ("after", "n", 1, "m"), "anchor"), (FULL, ("after", "m", 1, "a"), "anchor"))
        for function in (placed, alike, way_back):
            for order, rule, why in tried_rules:
                with self.assertRaises(NotApplicable) as caught:
                    function(order, rule)
                same(self, (caught.exception.index, caught.exception.why), (0, why))


class Printed(unittest.TestCase):
    def test_interface(self):
        assert_printed(self, '''
>>> from fewestrules.placing import alike, placed, way_back
>>> from fewestrules.rules import applied, led
>>> order = (("a", "b", "c"), (2, 1))
>>> applied(order, ("after", "a", 1, "d"))
(('a', 'b', 'd', 'c'), (2, 1, 1))
>>> applied(order, ("after", "a", 3, "d"))
(('a', 'd', 'b', 'c'), (3, 2, 1))
>>> applied(order, ("before", "c", 3, "a"))
(('b', 'a', 'c'), (1, 3))
>>> led(order, (("after", "c", 2, "a"), ("before", "b", 1, "c")))
(('c', 'b', 'a'), (1, 1))
>>> placed(order, ("after", "c", 2, "a"))
(2, 2, None)
>>> alike(order, ("after", "b", 1, "d"))
[('after', 'a', 1, 'd'), ('after', 'b', 1, 'd'), ('before', 'c', 1, 'd')]
>>> way_back(order, ("before", "c", 3, "a"))
(('before', 'b', 2, 'a'),)
''')
