"""Points 2, 76 to 79, 86 and 87: words, weights, keys, and how words are compared."""

import random
import unittest
from itertools import combinations, product

from fewestrules.words import compare, is_word, key, weights
from tests.helpers import (NAMES, TWELVE, WRONG_LETTERS, WRONG_LEVELS, WRONG_ORDERS, WRONG_WORDS, assert_bad_value,
                           assert_bad_values, left_out, orders_of, orders_within, reckoned_compare, reckoned_weights,
                           same, short_words, some_order, some_orders, some_word, some_words)

ORDER = (("a", "b", "c"), (2, 1))
EMPTY = ((), ())
LEVELS = (1, 2, 3)


def tried(seed, many):
    """Orders of one to twelve letters with words of them."""
    chance = random.Random(seed)
    for order in some_orders(seed, many):
        yield order, some_words(chance, order, 8)


class Words(unittest.TestCase):
    def test_number_of_letters(self):
        for order in (ORDER, (("a",), ()), (TWELVE, (1,) * 11)):
            for many in range(16):
                same(self, is_word(order, ("a",) * many), many <= 12)
        same(self, is_word((TWELVE, (1,) * 11), TWELVE), True)
        same(self, is_word((TWELVE, (1,) * 11), TWELVE[::-1]), True)
        same(self, is_word((TWELVE, (1,) * 11), TWELVE + ("a",)), False)

    def test_letters_several_times(self):
        for word in product(ORDER[0], repeat=3):
            same(self, is_word(ORDER, word), True)
        same(self, is_word(ORDER, ("a", "b", "c") * 4), True)
        same(self, is_word(ORDER, ("a", "b", "c") * 4 + ("a",)), False)

    def test_letters_of_another_order(self):
        for order in some_orders(130, 48):
            for letter in NAMES:
                inside = letter in order[0]
                same(self, is_word(order, (letter,)), inside)
                same(self, is_word(order, (order[0][0], letter)), inside)
                same(self, is_word(order, (letter,) + order[0][:11]), inside)

    def test_the_order_without_letters(self):
        same(self, is_word(EMPTY, ()), True)
        same(self, is_word(EMPTY, ("a",)), False)

    def test_values_of_other_forms(self):
        for value in WRONG_WORDS + (1.5, b"a", object(), False):
            same(self, is_word(ORDER, value), False)
            same(self, is_word(EMPTY, value), False)
        for value in WRONG_LETTERS:
            same(self, is_word(ORDER, ("a", value)), False)


class Weights(unittest.TestCase):
    def test_against_a_count_of_the_groups(self):
        for order in list(orders_within(("a", "b", "c", "d"))) + list(some_orders(131, 240)):
            found = [weights(order, letter) for letter in order[0]]
            for letter, numbers in zip(order[0], found):
                same(self, numbers, reckoned_weights(order, letter))
            self.assertEqual(len(set(found)), len(order[0]))
            self.assertEqual(found, sorted(found))

    def test_of_twelve_letters(self):
        order = (TWELVE, (3, 2, 3, 1, 2, 2, 3, 3, 1, 1, 3))
        wanted = [(1, 1, 1), (1, 1, 2), (1, 2, 1), (1, 2, 2), (2, 1, 1), (2, 2, 1), (2, 3, 1), (2, 3, 2), (2, 3, 3),
                  (3, 1, 1), (4, 1, 1), (4, 1, 2)]
        same(self, [weights(order, letter) for letter in TWELVE], wanted)

    def test_one_strength_alone(self):
        for strength in LEVELS:
            order = (TWELVE, (strength,) * 11)
            for place, letter in enumerate(TWELVE):
                wanted = [1, 1, 1]
                wanted[strength - 1] = place + 1
                same(self, weights(order, letter), tuple(wanted))
        same(self, weights((("a",), ()), "a"), (1, 1, 1))


class Keys(unittest.TestCase):
    def test_all_levels(self):
        for order, words in tried(132, 120):
            for word, level in product(words, LEVELS):
                wanted = tuple(tuple(reckoned_weights(order, letter)[at] for letter in word) for at in range(level))
                same(self, key(order, word, level), wanted)

    def test_the_empty_word(self):
        for order in (EMPTY, ORDER, (TWELVE, (3,) * 11)):
            same(self, [key(order, (), level) for level in LEVELS], [((),), ((), ()), ((), (), ())])

    def test_a_letter_twice(self):
        same(self, key(ORDER, ("b", "c", "b"), 2), ((1, 2, 1), (2, 1, 2)))
        same(self, key(ORDER, ("b",) * 12, 3), ((1,) * 12, (2,) * 12, (1,) * 12))


class Compared(unittest.TestCase):
    def assert_compared(self, order, first, second):
        for level in LEVELS:
            found = compare(order, first, second, level)
            same(self, found, reckoned_compare(order, first, second, level))
            same(self, compare(order, second, first, level), -found)

    def test_all_short_words_of_small_orders(self):
        for order in list(orders_within(("a", "b", "c")))[::3]:
            for first, second in combinations(short_words(order[0]), 2):
                self.assert_compared(order, first, second)

    def test_long_words(self):
        for order, words in tried(133, 120):
            for first, second in combinations(words, 2):
                self.assert_compared(order, first, second)

    def test_keys_as_tuples(self):
        for order, words in tried(134, 60):
            for (first, second), level in product(combinations(words, 2), LEVELS):
                one, other = key(order, first, level), key(order, second, level)
                same(self, compare(order, first, second, level), (one > other) - (one < other))

    def test_the_empty_word_and_beginnings(self):
        for order, words in tried(135, 60):
            for word, level in product(words, LEVELS):
                same(self, compare(order, word, word, level), 0)
                for many in range(len(word)):
                    same(self, compare(order, word[:many], word, level), -1)
                    same(self, compare(order, word, word[:many], level), 1)

    def test_a_stronger_difference_counts_more_wherever_it_stands(self):
        order = (("a", "b", "c", "d"), (3, 2, 1))
        for first, second, wanted in ((("b", "c"), ("a", "d"), (-1, -1, -1)), (("b", "a"), ("a", "c"), (0, -1, -1)),
                                      (("b", "a"), ("a", "b"), (0, 0, 1)), (("c",), ("a", "a"), (-1, -1, -1)),
                                      (("d",), ("a", "a"), (1, 1, 1))):
            for level in LEVELS:
                same(self, compare(order, first, second, level), wanted[level - 1])

    def test_weak_strengths_count_at_their_level(self):
        for strength in LEVELS:
            for level in LEVELS:
                wanted = -1 if strength <= level else 0
                same(self, compare((("a", "b"), (strength,)), ("a",), ("b",), level), wanted)


class Sentences(unittest.TestCase):
    def test_equal_at_the_level_3(self):
        for order in list(orders_of(("a", "b", "c")))[::5]:
            for first, second in product(short_words(order[0]), repeat=2):
                self.assertEqual(compare(order, first, second, 3) == 0, first == second)
        for order, words in tried(136, 120):
            for first, second in combinations(words, 2):
                self.assertEqual(compare(order, first, second, 3) == 0, first == second)

    def test_lesser_and_greater_levels(self):
        equal = 0
        for order, words in tried(137, 150):
            for first, second in combinations(words, 2):
                found = [compare(order, first, second, level) for level in LEVELS]
                for one, other in zip(found, found[1:]):
                    self.assertTrue(one == other or one == 0, found)
                if found[0] == 0:
                    equal += first != second
                    self.assertEqual(len(first), len(second))
        self.assertGreater(equal, 50)

    def test_other_letters_taken_out(self):
        chance = random.Random(138)
        for turn in range(150):
            order = some_order(chance, NAMES, turn % 12 + 1)
            letters = chance.sample(list(order[0]), min(len(order[0]), 3))
            first, second = some_word(chance, letters), some_word(chance, letters)
            left = order
            for letter in order[0]:
                if letter not in first + second:
                    left = left_out(left, letter)
            for level in LEVELS:
                same(self, compare(left, first, second, level), compare(order, first, second, level))


class WrongArguments(unittest.TestCase):
    def test_each_function(self):
        order = ("order", ORDER, WRONG_ORDERS)
        level = ("level", 2, WRONG_LEVELS)
        for value in (("a",), (), None, ("z",)):
            assert_bad_values(self, lambda one: is_word(one, value), [order])
        assert_bad_values(self, weights, [order, ("letter", "b", WRONG_LETTERS + ("z", "d"))])
        assert_bad_values(self, key, [order, ("word", ("a", "b"), WRONG_WORDS), level])
        assert_bad_values(self, compare, [order, ("first", ("a",), WRONG_WORDS), ("second", ("b", "a"), WRONG_WORDS),
                                          level])

    def test_the_order_without_letters(self):
        for letter in ("a", "", None):
            assert_bad_value(self, "letter", weights, (EMPTY, letter))
        assert_bad_value(self, "word", key, (EMPTY, ("a",), 1))
        assert_bad_value(self, "level", key, (EMPTY, (), 0))
        assert_bad_value(self, "second", compare, (EMPTY, (), ("a",), 0))


class Printed(unittest.TestCase):
    def test_point_87(self):
        same(self, [weights(ORDER, letter)[0] for letter in ORDER[0]], [1, 1, 2])
        same(self, compare(ORDER, ("b", "a"), ("a", "b"), 1), 0)
        same(self, compare(ORDER, ("b", "a"), ("a", "b"), 2), 1)
