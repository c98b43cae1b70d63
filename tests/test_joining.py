"""Points 2, 70 to 72, 74 and 75: joined lists, lists that turn back, and untouched letters."""

import random
import unittest

from fewestrules.common import is_common
from fewestrules.errors import NotApplicable, TooLarge
from fewestrules.joining import accepts_back, joined, turned_back, untouched
from fewestrules.placing import way_back
from fewestrules.pruning import pruned
from fewestrules.rules import is_rule_list, led
from tests.helpers import (GOOD_RULE, NAMES, OTHER_VALUES, TWELVE, WRONG_ORDERS, WRONG_RULE_LISTS, assert_bad_value,
                           assert_bad_values, assert_printed, orders_within, reckoned_led, reckoned_result, rules_for,
                           same, some_order, some_orders, some_rules)

ROW = (("a", "b", "c", "d"), (1, 1, 1))
C_TO_A = ("after", "a", 1, "c")
B_TO_A = ("after", "a", 1, "b")
B_TO_D = ("after", "d", 2, "b")
FULL = (TWELVE, (1, 2, 3, 1, 2, 3, 1, 2, 3, 1, 2))


def moving(chance, order, many):
    """So many rules that move only letters of the order, which has two or more."""
    rules = [rule for letter in order[0] for rule in rules_for(order[0], letter)]
    return tuple(chance.choice(rules) for _ in range(many))


def tried(seed, many):
    """Orders with rule lists that can be applied to them: with new letters, and without."""
    chance = random.Random(seed)
    for turn, order in enumerate(some_orders(seed, many, 2, 12)):
        length = chance.choice((0, 1, 2, 3, 6, 12, 20))
        yield order, moving(chance, order, length) if turn % 3 else some_rules(chance, order, length)


def reckoned_back(order, rules):
    """What point 71 tells: the ways back of the single rules, in the opposite order, pruned."""
    backs = []
    for rule in rules:
        back = way_back(order, rule)
        if back is None:
            return None
        backs.append(back)
        order = reckoned_result(order, rule)
    found = [rule for back in reversed(backs) for rule in back]
    return pruned(tuple(found))


class Joined(unittest.TestCase):
    def test_it_is_the_pruned_list_of_both(self):
        chance = random.Random(120)
        for turn in range(200):
            order = some_order(chance, NAMES, 2 + turn % 11)
            first, second = moving(chance, order, turn % 11), moving(chance, order, turn % 7 + turn % 4)
            same(self, joined(first, second), pruned(first + second))

    def test_it_leads_to_the_third_order(self):
        chance = random.Random(121)
        many = 0
        for turn in range(250):
            order = some_order(chance, NAMES, 2 + turn % 11)
            first = some_rules(chance, order, turn % 21)
            second_order = reckoned_led(order, first)
            second = some_rules(chance, second_order, chance.randrange(21))
            if len(pruned_by_hand(first + second)) <= 20:
                many += 1
                same(self, led(order, joined(first, second)), reckoned_led(second_order, second))
        self.assertGreater(many, 150)

    def test_lists_of_more_than_twenty_rules_before_pruning(self):
        first, second = (B_TO_A,) * 20, (C_TO_A, B_TO_D) * 10
        same(self, joined(first, second), (C_TO_A, B_TO_D))
        same(self, joined(first, first), (B_TO_A,))

    def test_twenty_and_twenty_one(self):
        rules = tuple(("after", "a", 1, f"b{at}") for at in range(25))
        same(self, joined(rules[:20], ()), rules[:20])
        same(self, joined((), rules[:20]), rules[:20])
        same(self, joined(rules[:7], rules[7:20]), rules[:20])
        same(self, joined(rules[:20], rules[10:20]), rules[:20])
        same(self, joined(rules[:20], rules[9::-1]), rules[10:20] + rules[9::-1])
        for first, second in ((rules[:20], rules[20:21]), (rules[:1], rules[1:21]), (rules[:11], rules[10:21]),
                              (rules[:20], rules[5:25])):
            with self.assertRaises(TooLarge) as caught:
                joined(first, second)
            same(self, caught.exception.what, "rules")

    def test_no_rules(self):
        same(self, joined((), ()), ())
        same(self, joined((B_TO_A,), ()), (B_TO_A,))
        same(self, joined((), (B_TO_A, C_TO_A, B_TO_D)), (C_TO_A, B_TO_D))


def pruned_by_hand(rules):
    """The pruned list of any number of rules."""
    kept = []
    for side, anchor, strength, letter in reversed(rules):
        turns = [(rule[3] == letter, rule[1] == letter) for rule in kept]
        hits = [turn for turn in turns if turn != (False, False)]
        if not hits or not hits[0][0]:
            kept.insert(0, (side, anchor, strength, letter))
    return tuple(kept)


class Untouched(unittest.TestCase):
    def test_letters_that_no_rule_moves(self):
        for order, rules in tried(122, 200):
            moved = [rule[3] for rule in rules]
            found = untouched(order, rules)
            same(self, found, tuple(letter for letter in order[0] if letter not in moved))
            same(self, is_common(order, led(order, rules), found), True)
            same(self, untouched(order, pruned(rules)), found)

    def test_none_and_all(self):
        for order in some_orders(123, 48):
            same(self, untouched(order, ()), order[0])
        same(self, untouched(((), ()), ()), ())
        same(self, untouched((("a", "b"), (1,)), (("after", "a", 2, "b"), ("after", "b", 2, "a"))), ())
        same(self, untouched((("a", "b"), (1,)), (("after", "a", 2, "c"),)), ("a", "b"))


class TurnedBack(unittest.TestCase):
    def assert_back(self, order, rules):
        result = reckoned_led(order, rules)
        back = turned_back(order, rules)
        same(self, back, reckoned_back(order, rules))
        if not set(result[0]) <= set(order[0]):
            same(self, back, None)
            return False
        self.assertTrue(is_rule_list(back))
        self.assertLessEqual(len(back), len(rules))
        same(self, led(result, back), order)
        same(self, accepts_back(order, rules, back), True)
        return True

    def test_against_the_ways_back(self):
        told = [self.assert_back(order, rules) for order, rules in tried(124, 200)]
        self.assertGreater(told.count(True), 100)
        self.assertGreater(told.count(False), 30)

    def test_all_lists_of_two_rules_of_small_orders(self):
        for order in list(orders_within(("a", "b", "c")))[4::9]:
            rules = [rule for letter in ("a", "b", "c", "d") for rule in rules_for(order[0], letter)]
            for at, one in enumerate(rules):
                for other in rules[at % 3::3]:
                    self.assert_back(order, (one, other))

    def test_nothing_to_turn_back(self):
        for order in list(some_orders(125, 24)) + [((), ())]:
            same(self, turned_back(order, ()), ())
        same(self, turned_back(ROW, (B_TO_A,)), ())
        # Each rule has its way back, although both together change nothing; pruning leaves the last one.
        same(self, turned_back(ROW, (B_TO_D, B_TO_A)), (B_TO_A,))

    def test_a_new_letter(self):
        same(self, turned_back(ROW, (("after", "d", 1, "e"),)), None)
        same(self, turned_back(ROW, (B_TO_D, ("after", "d", 1, "e"), B_TO_A)), None)

    def test_twenty_rules_of_twelve_letters(self):
        chance = random.Random(126)
        for _ in range(20):
            rules = moving(chance, FULL, 20)
            self.assertTrue(self.assert_back(FULL, rules))


class Judge(unittest.TestCase):
    def test_other_rules(self):
        chance = random.Random(127)
        told = set()
        for order, rules in tried(128, 150):
            result = reckoned_led(order, rules)
            backs = [turned_back(order, rules) or (), rules[::-1], (), moving(chance, order, 1)]
            backs += [back[:-1] for back in backs] + [back[1:] for back in backs]
            for back in backs:
                wanted = reckoned_led(result, back) == order
                same(self, accepts_back(order, rules, back), wanted)
                told.add((wanted, len(back) > 1))
        self.assertEqual(len(told), 4)

    def test_rules_that_cannot_be_applied_to_the_result(self):
        same(self, accepts_back(ROW, (), (("after", "e", 1, "a"),)), False)
        same(self, accepts_back(ROW, (), (("after", "a", 1, "b"),)), True)
        same(self, accepts_back(FULL, (), (("after", "a", 1, "m"),)), False)
        same(self, accepts_back(ROW, (("after", "a", 1, "e"),), ()), False)

    def test_longer_lists_than_needed(self):
        same(self, accepts_back(ROW, (B_TO_D,), (B_TO_A,) * 20), True)
        same(self, accepts_back(ROW, (B_TO_D,), (B_TO_A,) * 21), False)
        same(self, accepts_back(ROW, (B_TO_D,), (B_TO_D, B_TO_A)), True)

    def test_every_value(self):
        for value in OTHER_VALUES + WRONG_RULE_LISTS + ([B_TO_A], ["after", "a", 1, "b"], B_TO_A):
            for rules in ((), (B_TO_D,), (B_TO_A,)):
                same(self, accepts_back(ROW, rules, value), False)
        same(self, accepts_back(ROW, (B_TO_D,), (("after", "a", True, "b"),)), False)


class WrongArguments(unittest.TestCase):
    def test_each_function(self):
        order = ("order", ROW, WRONG_ORDERS)
        rules = ("rules", (B_TO_D,), WRONG_RULE_LISTS)
        for function in (untouched, turned_back):
            assert_bad_values(self, function, [order, rules])
        for back in ((), None, (B_TO_A,), (GOOD_RULE,) * 21):
            assert_bad_values(self, lambda one, other: accepts_back(one, other, back), [order, rules])
        assert_bad_values(self, joined, [("first", (B_TO_D,), WRONG_RULE_LISTS), ("second", (), WRONG_RULE_LISTS)])

    def assert_not_applicable(self, order, rules, index, why):
        for function in (untouched, turned_back, lambda one, other: accepts_back(one, other, None),
                         lambda one, other: accepts_back(one, other, ())):
            with self.assertRaises(NotApplicable) as caught:
                function(order, rules)
            same(self, (caught.exception.index, caught.exception.why), (index, why))

    def test_not_applicable(self):
        self.assert_not_applicable(((), ()), (B_TO_A,), 0, "anchor")
        self.assert_not_applicable(ROW, (B_TO_A, B_TO_D, ("after", "z", 1, "a")), 2, "anchor")
        self.assert_not_applicable(FULL, (B_TO_A, ("after", "a", 1, "m")), 1, "full")
        self.assert_not_applicable(FULL, (("after", "n", 1, "m"),), 0, "anchor")
        # Behind a rule that puts in a new letter, too.
        self.assert_not_applicable(ROW, (("after", "a", 1, "e"), ("after", "z", 1, "a")), 1, "anchor")

    def test_bad_value_comes_before_not_applicable(self):
        wrong = (("after", "z", 1, "a"), ("after", "a", 0, "b"))
        for function in (untouched, turned_back, lambda order, rules: accepts_back(order, rules, None)):
            assert_bad_value(self, "rules", function, (ROW, wrong))
            assert_bad_value(self, "order", function, ((("a", "b"), ()), wrong[:1]))
            assert_bad_value(self, "rules", function, (((), ()), (B_TO_A,) * 21))

    def test_wrong_lists_come_before_too_many_rules(self):
        rules = tuple(("after", "a", 1, f"b{at}") for at in range(25))
        assert_bad_value(self, "second", joined, (rules[:20], rules[4:25]))
        assert_bad_value(self, "first", joined, (rules[:21], rules[5:25]))


class Printed(unittest.TestCase):
    def test_interface(self):
        assert_printed(self, '''
>>> from fewestrules.joining import accepts_back, joined, turned_back, untouched
>>> from fewestrules.pruning import accepts_dropped, grounds_for, pruned, redundant
>>> b_to_a = ("after", "a", 1, "b")
>>> c_to_b = ("after", "b", 1, "c")
>>> c_to_a = ("after", "a", 1, "c")
>>> b_to_d = ("after", "d", 2, "b")
>>> redundant((b_to_a, c_to_b, b_to_d)), redundant((b_to_a, c_to_a, b_to_d))
([], [0])
>>> pruned((b_to_a, c_to_a, b_to_d)) == (c_to_a, b_to_d)
True
>>> grounds_for((b_to_a, c_to_a, b_to_d)), accepts_dropped((b_to_a, c_to_b, b_to_d), ((0, 2),))
(((0, 2),), False)
>>> joined((b_to_a,), (c_to_a, b_to_d)) == (c_to_a, b_to_d)
True
>>> row = (("a", "b", "c", "d"), (1, 1, 1))
>>> untouched(row, (c_to_a, b_to_d))
('a', 'd')
>>> accepts_back(row, (c_to_a, b_to_d), turned_back(row, (c_to_a, b_to_d)))
True
>>> turned_back(row, (("after", "d", 1, "e"),)) is None
True
''')
