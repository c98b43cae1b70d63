"""Points 2, 66 to 69 and 73 to 75: redundant rules, pruned lists, and grounds for dropping rules."""

import random
import unittest
from itertools import combinations, product

from fewestrules.pruning import accepts_dropped, grounds_for, kept_rules, pruned, redundant
from fewestrules.rules import led, result_or_none
from tests.helpers import (GOOD_RULE, OTHER_VALUES, TWELVE, WRONG_RULE_LISTS, assert_bad_value, assert_bad_values,
                           assert_printed, reckoned_led, rules_for, same, some_orders, some_rules)

B_TO_A = ("after", "a", 1, "b")
C_TO_B = ("after", "b", 1, "c")
C_TO_A = ("after", "a", 1, "c")
B_TO_D = ("after", "d", 2, "b")


def reckoned_redundant(rules):
    """Point 66 sentence by sentence."""
    return [i for i, k in combinations(range(len(rules)), 2) if rules[k][3] == rules[i][3]
            and not any(rule[1] == rules[i][3] for rule in rules[i + 1:k])]


def reckoned_kept(rules):
    """The indexes of the pruned list, rule by rule as point 67 tells it."""
    kept = []
    for index in range(len(rules) - 1, -1, -1):
        behind = [rules[at] for at in kept]
        if 0 not in reckoned_redundant([rules[index]] + behind):
            kept = [index] + kept
    return kept


def reckoned_accepts(rules, grounds):
    """Point 68 sentence by sentence, for a tuple of pairs of integers."""
    indexes = [index for index, _ in grounds]
    if sorted(set(indexes)) != indexes or not set(indexes) <= set(range(len(rules))):
        return False
    for index, later in grounds:
        if later not in range(len(rules)) or later in indexes or later <= index:
            return False
        if rules[later][3] != rules[index][3]:
            return False
        if any(rules[at][1] == rules[index][3] for at in range(index + 1, later) if at not in indexes):
            return False
    return True


def few_letters(seed, many, most=20):
    """Rule lists over few letters, in which many rules are redundant."""
    chance = random.Random(seed)
    for turn in range(many):
        letters = ("a", "b", "c", "d", "e", "f")[:3 + turn % 4]
        rules = []
        for _ in range(turn % (most + 1)):
            anchor = chance.choice(letters)
            letter = chance.choice([letter for letter in letters if letter != anchor])
            rules.append((chance.choice(("after", "before")), anchor, chance.choice((1, 2, 3)), letter))
        yield tuple(rules)


def small_lists():
    """All lists of up to four rules of which only anchors and letters differ."""
    rules = [("after", anchor, 1, letter) for anchor in "abc" for letter in "abc" if anchor != letter]
    for many in range(5):
        yield from product(rules, repeat=many)


def large_lists(seed, many):
    """Orders of up to twelve letters with rule lists that can be applied to them."""
    chance = random.Random(seed)
    for order in some_orders(seed, many):
        yield order, some_rules(chance, order, chance.choice((2, 5, 9, 14, 20)))


class Redundant(unittest.TestCase):
    def test_against_the_sentence(self):
        for rules in list(small_lists())[::3] + list(few_letters(100, 210)):
            found = redundant(rules)
            same(self, found, sorted(set(reckoned_redundant(rules))))

    def test_without_one_of_them(self):
        many = 0
        for order, rules in large_lists(101, 150):
            wanted = reckoned_led(order, rules)
            for index in redundant(rules):
                many += 1
                same(self, led(order, rules[:index] + rules[index + 1:]), wanted)
        self.assertGreater(many, 100)

    def test_rules_that_are_not_redundant_can_have_an_effect(self):
        order = (("a", "c", "d", "b"), (1, 1, 1))
        self.assertNotEqual(led(order, (B_TO_A, C_TO_B, B_TO_D)), led(order, (C_TO_B, B_TO_D)))

    def test_different_letters(self):
        for many in range(21):
            rules = tuple(("before", "a", at % 3 + 1, f"b{at}") for at in range(many))
            same(self, redundant(rules), [])
            same(self, pruned(rules), rules)
            same(self, grounds_for(rules), ())

    def test_the_same_letter(self):
        for many in range(1, 21):
            rules = tuple(("before", f"b{at}", 1, "a") for at in range(many))
            same(self, redundant(rules), list(range(many - 1)))
            same(self, pruned(rules), rules[-1:])

    def test_sides_and_strengths_make_no_difference(self):
        for rules in list(small_lists())[2000::11]:
            other = tuple(("before", anchor, at % 3 + 1, letter) for at, (_, anchor, _, letter) in enumerate(rules))
            same(self, redundant(other), redundant(rules))
            same(self, grounds_for(other), grounds_for(rules))

    def test_a_changed_list_changes_no_later_answer(self):
        rules = (B_TO_A, C_TO_A, B_TO_D)
        found = redundant(rules)
        found.append(7)
        same(self, redundant(rules), [0])
        self.assertIsNot(redundant(rules), redundant(rules))


class Pruned(unittest.TestCase):
    def test_from_the_last_rule_to_the_first_one(self):
        for rules in list(small_lists())[::2] + list(few_letters(102, 210)):
            same(self, pruned(rules), tuple(rules[index] for index in reckoned_kept(rules)))

    def test_a_rule_that_only_pruning_makes_redundant(self):
        rules = (B_TO_A, C_TO_B, C_TO_A, B_TO_D)
        same(self, redundant(rules), [1])
        same(self, pruned(rules), (C_TO_A, B_TO_D))
        same(self, grounds_for(rules), ((0, 3), (1, 2)))

    def test_pruned_again(self):
        for rules in list(few_letters(103, 210)) + [rules for _, rules in large_lists(104, 60)]:
            found = pruned(rules)
            same(self, redundant(found), [])
            same(self, pruned(found), found)
            same(self, grounds_for(found), ())
            letters = {rule[3] for rule in rules}
            self.assertEqual({rule[3] for rule in found}, letters)
            for letter in letters:
                lasts = [[rule for rule in row if rule[3] == letter][-1] for row in (rules, found)]
                same(self, lasts[1], lasts[0])

    def test_it_leads_where_the_list_leads(self):
        shorter = 0
        for order, rules in large_lists(105, 200):
            found = pruned(rules)
            shorter += len(found) < len(rules)
            same(self, led(order, found), reckoned_led(order, rules))
        self.assertGreater(shorter, 80)

    def test_no_rules(self):
        same(self, redundant(()), [])
        same(self, pruned(()), ())
        same(self, grounds_for(()), ())
        same(self, kept_rules((), ()), ())
        same(self, accepts_dropped((), ()), True)
        same(self, accepts_dropped((), ((0, 1),)), False)


class Grounds(unittest.TestCase):
    def test_what_is_told(self):
        for rules in list(small_lists())[::2] + list(few_letters(106, 210)):
            grounds = grounds_for(rules)
            kept = reckoned_kept(rules)
            wanted = []
            for index in range(len(rules)):
                if index not in kept:
                    later = [at for at in kept if at > index and rules[at][3] == rules[index][3]]
                    wanted.append((index, later[0]))
            same(self, grounds, tuple(wanted))
            same(self, accepts_dropped(rules, grounds), True)
            same(self, kept_rules(rules, grounds), pruned(rules))

    def all_grounds(self, many):
        pairs = [(index, later) for index in range(-1, many + 1) for later in range(-1, many + 1)]
        return [()] + [(pair,) for pair in pairs] + list(product(pairs, repeat=2))

    def test_all_grounds_of_up_to_two_pairs(self):
        accepted = 0
        for rules in list(small_lists())[::37]:
            for grounds in self.all_grounds(len(rules)):
                wanted = reckoned_accepts(rules, grounds)
                same(self, accepts_dropped(rules, grounds), wanted)
                accepted += wanted and len(grounds) == 2
        self.assertGreater(accepted, 5)

    def test_some_grounds_of_long_lists(self):
        chance = random.Random(107)
        told = []
        for rules in few_letters(107, 210):
            good = grounds_for(rules)
            for _ in range(6):
                grounds = [pair for pair in good if chance.random() < 0.8]
                if grounds and chance.random() < 0.5:
                    at = chance.randrange(len(grounds))
                    grounds[at] = (grounds[at][0], chance.randrange(len(rules)))
                wanted = reckoned_accepts(rules, grounds)
                same(self, accepts_dropped(rules, tuple(grounds)), wanted)
                told.append((wanted, len(grounds) > 2))
                if wanted:
                    dropped = [index for index, _ in grounds]
                    kept = tuple(rule for at, rule in enumerate(rules) if at not in dropped)
                    same(self, kept_rules(rules, tuple(grounds)), kept)
        self.assertEqual(len(set(told)), 4)

    def test_accepted_grounds_lead_to_the_same_order(self):
        chance = random.Random(108)
        many = 0
        for order, rules in large_lists(108, 150):
            good = grounds_for(rules)
            for _ in range(4):
                grounds = tuple(pair for pair in good if chance.random() < 0.7)
                if accepts_dropped(rules, grounds):
                    many += len(grounds) > 1
                    same(self, led(order, kept_rules(rules, grounds)), reckoned_led(order, rules))
        self.assertGreater(many, 80)

    def test_a_later_rule_that_is_not_the_next_one(self):
        rules = (B_TO_A, B_TO_D, B_TO_A, C_TO_B, B_TO_D)
        for later, wanted in ((0, False), (1, True), (2, True), (3, False), (4, False)):
            same(self, accepts_dropped(rules, ((0, later),)), wanted)
        same(self, accepts_dropped(rules, ((0, 2), (1, 2))), True)
        same(self, accepts_dropped(rules, ((0, 1), (1, 2))), False)
        # A rule between the two that is dropped, too, does not count.
        rules = (B_TO_A, C_TO_B, C_TO_A, B_TO_D)
        same(self, accepts_dropped(rules, ((0, 3),)), False)
        same(self, accepts_dropped(rules, ((0, 3), (1, 2))), True)
        same(self, accepts_dropped(rules, ((1, 2),)), True)

    def test_one_index_twice_and_another_sequence(self):
        rules = (B_TO_A, B_TO_D, B_TO_A, B_TO_D)
        same(self, accepts_dropped(rules, ((0, 3), (1, 3), (2, 3))), True)
        for grounds in (((0, 3), (0, 3)), ((0, 2), (0, 3)), ((1, 3), (0, 3)), ((0, 3), (2, 3), (1, 3)),
                        ((0, 2), (1, 3), (1, 3)), ((0, 2), (0, 3), (1, 3))):
            same(self, accepts_dropped(rules, grounds), False)
            assert_bad_value(self, "grounds", kept_rules, (rules, grounds))

    def test_values_of_other_forms(self):
        rules = (B_TO_A, B_TO_D, B_TO_A)
        same(self, accepts_dropped(rules, ((0, 1),)), True)
        for value in OTHER_VALUES + ([(0, 1)], ([0, 1],), ((0, True),), ((False, 1),), ((0, 1.0),), ((0.0, 1),),
                                     ((0, 1, 2),), ((0,),), (0, 1), ("01",), ((0, "1"),), ((0, None),), ((None, 1),),
                                     ((0, 1), None), (((0,), (1,)),), ((0, -1),), ((0, -2),), ((-3, 1),), ((-3, -2),),
                                     ((0, 3),), ((3, 4),), ((0, (1,)),), {(0, 1): 1}, ((0, 10 ** 30),)):
            same(self, accepts_dropped(rules, value), False)
            assert_bad_value(self, "grounds", kept_rules, (rules, value))

    def test_no_grounds(self):
        for rules in few_letters(109, 42):
            same(self, accepts_dropped(rules, ()), True)
            same(self, kept_rules(rules, ()), rules)


class OneDirection(unittest.TestCase):
    def test_an_anchor_that_is_missing(self):
        order = (("a", "b", "d"), (1, 1))
        rules = (("after", "z", 1, "b"), B_TO_D)
        same(self, result_or_none(order, rules), None)
        self.assertIsNotNone(result_or_none(order, pruned(rules)))

    def test_no_room(self):
        order = (TWELVE[:11], (1,) * 10)
        rules = (("after", "a", 1, "y"), ("after", "a", 1, "z"), ("after", "b", 1, "y"))
        same(self, result_or_none(order, rules), None)
        same(self, pruned(rules), rules[1:])
        same(self, result_or_none(order, pruned(rules)), None)
        same(self, accepts_dropped(rules, ((0, 2),)), True)
        rules = (("after", "a", 1, "y"), ("after", "y", 1, "z"), ("after", "b", 1, "y"))
        same(self, redundant(rules), [])

    def test_where_the_shorter_list_leads_the_longer_one_may_not(self):
        many = 0
        for order, rules in large_lists(110, 60):
            rules = rules[:19]
            longer = (("after", "zz", 1, rules[0][3]),) + rules
            if 0 in redundant(longer):
                many += 1
                same(self, result_or_none(order, longer), None)
                same(self, result_or_none(order, pruned(longer)), reckoned_led(order, rules))
        self.assertGreater(many, 20)


class WrongArguments(unittest.TestCase):
    def test_each_function(self):
        rules = ("rules", (B_TO_A, C_TO_A, B_TO_D), WRONG_RULE_LISTS)
        for function in (redundant, pruned, grounds_for):
            assert_bad_values(self, function, [rules])
        grounds = ("grounds", ((0, 2),), (((0, 1),), None, [], ((2, 0),), ((0, 2), (0, 2)), 0, ((0, True),)))
        assert_bad_values(self, kept_rules, [rules, grounds])
        for value in ((), None, ((0, 2),), True):
            assert_bad_values(self, lambda given: accepts_dropped(given, value), [rules])

    def test_lists_of_twenty_rules(self):
        same(self, pruned((GOOD_RULE,) * 20), (GOOD_RULE,))
        assert_bad_value(self, "rules", pruned, ((GOOD_RULE,) * 21,))
        found = [rule for rule in rules_for(("a", "b", "c"), "x")]
        same(self, redundant(tuple(found)), list(range(17)))


class Printed(unittest.TestCase):
    def test_point_75(self):
        same(self, redundant((B_TO_A, C_TO_B, B_TO_D)), [])
        same(self, redundant((B_TO_A, C_TO_A, B_TO_D)), [0])

    def test_interface(self):
        assert_printed(self, '''
>>> from fewestrules.pruning import accepts_dropped, grounds_for, pruned, redundant
>>> b_to_a = ("after", "a", 1, "b")
>>> c_to_b = ("after", "b", 1, "c")
>>> c_to_a = ("after", "a", 1, "c")
>>> b_to_d = ("after", "d", 2, "b")
>>> redundant((b_to_a, c_to_b, b_to_d)), redundant((b_to_a, c_to_a, b_to_d))
([], [0])
>>> pruned((b_to_a, c_to_a, b_to_d)) == (c_to_a, b_to_d)
True
>>> grounds_for((b_to_a, c_to_a, b_to_d)), accepts_dropped((b_to_a, c_to_b, b_to_d), ((0, 2),))
(((0, 2),), False)
''')
