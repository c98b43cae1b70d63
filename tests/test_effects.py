"""Points 2, 88 to 90 and 96 to 98: pairs of words that a change of the order concerns, and moved letters."""

import random
import unittest
from itertools import combinations

from fewestrules.effects import changed_pairs, moved_in
from fewestrules.errors import NotApplicable
from fewestrules.sorting import are_sorted, sorted_words
from fewestrules.words import compare
from tests.helpers import (NAMES, TWELVE, WRONG_LEVELS, WRONG_ORDERS, WRONG_RULE_LISTS, WRONG_TUPLES_OF_WORDS,
                           assert_bad_value, assert_bad_values, assert_printed, orders_of, reckoned_compare,
                           reckoned_led, rules_for, same, short_words, some_changes, some_order, some_orders,
                           some_rules, some_word, some_words)

ORDER = (("a", "b", "c"), (1, 1))
RULES = (("before", "a", 1, "c"),)
WORDS = (("a",), ("b",), ("c",), ("b", "a"))
FULL = (TWELVE, (1, 2, 3, 1, 2, 3, 1, 2, 3, 1, 2))
EMPTY = ((), ())
LEVELS = (1, 2, 3)


def reckoned_changed(order, rules, words, level):
    """Point 89 sentence by sentence."""
    after = reckoned_led(order, rules)
    found = []
    for j in range(len(words)):
        for i in range(j):
            before = reckoned_compare(order, words[i], words[j], level)
            if reckoned_compare(after, words[i], words[j], level) != before:
                found.append((i, j))
    return sorted(found)


class Changed(unittest.TestCase):
    def test_against_comparing(self):
        many = 0
        for order, rules, words, level in some_changes(160, 250):
            found = changed_pairs(order, rules, words, level)
            same(self, found, reckoned_changed(order, rules, words, level))
            many += bool(found)
        self.assertGreater(many, 100)

    def test_each_rule_of_small_orders(self):
        for order in list(orders_of(("a", "b", "c")))[::4]:
            words = tuple(short_words(order[0])[1:])
            for letter in ("a", "c", "d"):
                for rule in list(rules_for(order[0], letter))[::2]:
                    for level in LEVELS:
                        found = changed_pairs(order, (rule,), words, level)
                        same(self, found, reckoned_changed(order, (rule,), words, level))

    def test_equal_before_or_after_counts(self):
        words = (("a",), ("b",))
        weaker, stronger = (("after", "a", 3, "b"),), (("after", "a", 1, "b"),)
        round_about = (("before", "a", 1, "b"),)
        for strength, rules, wanted in ((1, weaker, [[(0, 1)], [(0, 1)], []]), (3, stronger, [[(0, 1)], [(0, 1)], []]),
                                        (1, round_about, [[(0, 1)]] * 3), (1, stronger, [[], [], []])):
            order = (("a", "b"), (strength,))
            same(self, [changed_pairs(order, rules, words, level) for level in LEVELS], wanted)

    def test_few_words(self):
        for level in LEVELS:
            same(self, changed_pairs(ORDER, RULES, (), level), [])
            same(self, changed_pairs(ORDER, RULES, (("a",),), level), [])
            same(self, changed_pairs(ORDER, RULES, (("c",), ("c",)), level), [])
            same(self, changed_pairs(EMPTY, (), (), level), [])
            same(self, changed_pairs(EMPTY, (), ((), ()), level), [])

    def test_twelve_words_of_twelve_letters(self):
        words = tuple((letter,) for letter in TWELVE)
        order = (TWELVE, (1,) * 11)
        for level in LEVELS:
            found = changed_pairs(order, (("before", "a", 1, "l"),), words, level)
            same(self, found, [(at, 11) for at in range(11)])
            rules = tuple(("before", one, 1, other) for one, other in zip(TWELVE, TWELVE[1:]))
            found = changed_pairs(order, rules, words, level)
            same(self, found, list(combinations(range(12), 2)))

    def test_a_changed_list_changes_no_later_answer(self):
        wanted = [(0, 2), (1, 2), (2, 3)]
        found = changed_pairs(ORDER, RULES, WORDS, 1)
        same(self, found, wanted)
        found.reverse()
        found.append(None)
        same(self, changed_pairs(ORDER, RULES, WORDS, 1), wanted)
        self.assertIsNot(changed_pairs(ORDER, RULES, WORDS, 1), changed_pairs(ORDER, RULES, WORDS, 1))


class Moved(unittest.TestCase):
    def test_letters_of_the_order_that_some_rule_moves(self):
        kinds = set()
        for order, rules, _, _ in some_changes(161, 200):
            letters = {rule[3] for rule in rules}
            found = moved_in(order, rules)
            same(self, found, tuple(letter for letter in order[0] if letter in letters))
            kinds.add((len(found) < len(letters), len(found) < len(order[0]), len(found) > 1))
        self.assertGreater(len(kinds), 5)

    def test_new_letters_are_none(self):
        same(self, moved_in(ORDER, (("after", "a", 1, "d"), ("after", "d", 1, "b"), ("before", "a", 1, "d"))), ("b",))
        same(self, moved_in(ORDER, ()), ())
        same(self, moved_in(EMPTY, ()), ())

    def test_a_letter_that_is_moved_back(self):
        same(self, moved_in(ORDER, (("before", "a", 1, "c"), ("after", "b", 1, "c"))), ("c",))
        same(self, moved_in(ORDER, (("after", "a", 1, "b"),)), ("b",))

    def test_in_the_sequence_of_the_order(self):
        order = (("c", "a", "b"), (1, 2))
        rules = (("after", "c", 1, "b"), ("after", "b", 2, "c"), ("before", "c", 1, "b"))
        same(self, moved_in(order, rules), ("c", "b"))


class Sentences(unittest.TestCase):
    def without_moved(self, seed, many):
        """Orders with rule lists and words without moved letters."""
        chance = random.Random(seed)
        for turn in range(many):
            order = some_order(chance, NAMES, 2 + turn % 11)
            rules = some_rules(chance, order, chance.choice((1, 2, 3, 5)))
            moved = moved_in(order, rules)
            letters = [letter for letter in order[0] if letter not in moved]
            yield order, rules, tuple(some_word(chance, letters) for _ in range(12))

    def test_words_without_moved_letters(self):
        for order, rules, words in self.without_moved(162, 150):
            after = reckoned_led(order, rules)
            for level in LEVELS:
                same(self, changed_pairs(order, rules, words, level), [])
                for one, other in combinations(words[:6], 2):
                    same(self, compare(after, one, other, level), compare(order, one, other, level))

    def test_all_words_stay_if_no_letter_of_them_is_moved(self):
        for order, rules, words in self.without_moved(163, 150):
            after = reckoned_led(order, rules)
            for level in LEVELS:
                same(self, are_sorted(after, sorted_words(order, words, level), level), True)

    def test_two_words_without_moved_letters_among_others(self):
        for order, rules, words, level in some_changes(164, 200):
            moved = moved_in(order, rules)
            for i, j in changed_pairs(order, rules, words, level):
                self.assertTrue(set(words[i] + words[j]) & set(moved))

    def test_the_order_itself(self):
        chance = random.Random(165)
        for order in some_orders(165, 48):
            words = some_words(chance, order)
            for level in LEVELS:
                same(self, changed_pairs(order, (), words, level), [])
        rules = (("before", "a", 1, "c"), ("after", "b", 1, "c"))
        self.assertEqual(reckoned_led(ORDER, rules), ORDER)
        words = tuple(short_words(ORDER[0])[1:])
        for level in LEVELS:
            same(self, changed_pairs(ORDER, rules, words[:12], level), [])


class WrongArguments(unittest.TestCase):
    def test_each_function(self):
        order = ("order", ORDER, WRONG_ORDERS)
        rules = ("rules", RULES, WRONG_RULE_LISTS)
        assert_bad_values(self, moved_in, [order, rules])
        assert_bad_values(self, changed_pairs, [order, rules, ("words", WORDS, WRONG_TUPLES_OF_WORDS),
                                                ("level", 1, WRONG_LEVELS)])

    def test_words_of_the_new_order_alone(self):
        rules = (("after", "a", 1, "d"),)
        assert_bad_value(self, "words", changed_pairs, (ORDER, rules, (("d",),), 1))
        assert_bad_value(self, "words", changed_pairs, (ORDER, rules, WORDS + (("a", "d"),), 1))

    def test_not_applicable(self):
        for order, rules, index, why in ((EMPTY, RULES, 0, "anchor"), (FULL, (("after", "a", 1, "m"),), 0, "full"),
                                         (FULL, (("after", "n", 1, "m"),), 0, "anchor"),
                                         (ORDER, RULES * 19 + (("after", "z", 1, "a"),), 19, "anchor"),
                                         (FULL, RULES + (("after", "b", 2, "m"),), 1, "full")):
            for function in (moved_in, lambda one, other: changed_pairs(one, other, (), 1)):
                with self.assertRaises(NotApplicable) as caught:
                    function(order, rules)
                same(self, (caught.exception.index, caught.exception.why), (index, why))

    def test_bad_value_comes_before_not_applicable(self):
        wrong = (("after", "z", 1, "a"),)
        assert_bad_value(self, "order", changed_pairs, ((("a",), (1,)), wrong, WORDS, 1))
        assert_bad_value(self, "rules", changed_pairs, (ORDER, wrong + (None,), WORDS, 1))
        assert_bad_value(self, "words", changed_pairs, (ORDER, wrong, (("z",),), 1))
        assert_bad_value(self, "level", changed_pairs, (ORDER, wrong, WORDS, 0))
        assert_bad_value(self, "order", moved_in, ((("a",), (1,)), wrong))
        assert_bad_value(self, "rules", moved_in, (ORDER, wrong + (None,)))


class Printed(unittest.TestCase):
    def test_point_98(self):
        same(self, reckoned_led(ORDER, RULES), (("c", "a", "b"), (1, 1)))
        same(self, moved_in(ORDER, RULES), ("c",))

    def test_interface(self):
        assert_printed(self, '''
>>> from fewestrules.effects import changed_pairs, moved_in
>>> order, rules = (("a", "b", "c"), (1, 1)), (("before", "a", 1, "c"),)
>>> words = (("a",), ("b",), ("c",), ("b", "a"))
>>> changed_pairs(order, rules, words, 1), moved_in(order, rules)
([(0, 2), (1, 2), (2, 3)], ('c',))
''')
