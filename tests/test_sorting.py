"""Points 2, 80, 81 and 86: sorted words, rows of equal words, and the places of words."""

import random
import unittest
from itertools import permutations

from fewestrules.sorting import are_sorted, equal_rows, is_words, place_of_word, sorted_words
from fewestrules.words import compare
from tests.helpers import (TWELVE, WRONG_LEVELS, WRONG_ORDERS, WRONG_TUPLES_OF_WORDS, WRONG_WORDS, assert_bad_value,
                           assert_bad_values, reckoned_compare, same, some_orders, some_word, some_words)

ORDER = (("a", "b", "c"), (2, 1))
EMPTY = ((), ())
LEVELS = (1, 2, 3)
WORDS = (("b",), ("b", "a"), ("a", "b"), ("c",))


def tried(seed, many):
    """Orders with 0 to 12 words of them and each level."""
    chance = random.Random(seed)
    for turn, order in enumerate(some_orders(seed, many)):
        words = some_words(chance, order, turn % 13)
        for level in LEVELS:
            yield order, words, level


def reckoned_sorted(order, words, level):
    """The sorted words: one after another is put behind all that do not come after it."""
    found = []
    for word in words:
        ahead = [other for other in found if reckoned_compare(order, other, word, level) <= 0]
        found.insert(len(ahead), word)
    return tuple(found)


class Forms(unittest.TestCase):
    def test_number_of_words(self):
        for many in range(15):
            same(self, is_words(ORDER, (("a",),) * many), many <= 12)
            same(self, is_words(EMPTY, ((),) * many), many <= 12)
        same(self, is_words(EMPTY, (("a",),)), False)

    def test_words_of_the_order(self):
        for order, words, _ in tried(140, 60):
            same(self, is_words(order, words), True)
            for place in range(len(words)):
                for wrong in (("zz",), ("a",) * 13, None, list(words[place]), (order[0][0], "zz")):
                    same(self, is_words(order, words[:place] + (wrong,) + words[place + 1:]), False)

    def test_values_of_other_forms(self):
        for value in WRONG_TUPLES_OF_WORDS + (1.5, b"a", object(), False):
            same(self, is_words(ORDER, value), False)


class Sorted(unittest.TestCase):
    def test_sorted_one_by_one(self):
        for order, words, level in tried(141, 200):
            found = sorted_words(order, words, level)
            same(self, found, reckoned_sorted(order, words, level))
            same(self, are_sorted(order, found, level), True)
            same(self, sorted_words(order, found, level), found)

    def test_are_sorted(self):
        told = []
        for order, words, level in tried(142, 200):
            for given in (words, words[:2], words[:3], reckoned_sorted(order, words, level)[::-1]):
                wanted = all(reckoned_compare(order, one, other, level) <= 0 for one, other in zip(given, given[1:]))
                same(self, are_sorted(order, given, level), wanted)
                told.append((wanted, len(given) > 1))
        self.assertEqual(len(set(told)), 3)

    def test_equal_words_keep_their_sequence(self):
        words = (("c", "a"), ("a", "b"), ("b", "a"), ("a", "a"), ("b", "b"))
        fine = ("aa", "ab", "ba", "bb", "ca")
        wanted = {1: ("ab", "ba", "aa", "bb", "ca"), 2: fine, 3: fine}
        for level in LEVELS:
            same(self, sorted_words(ORDER, words, level), tuple(tuple(word) for word in wanted[level]))
        for row in permutations(words[1:4]):
            same(self, sorted_words(ORDER, row, 1), row)
            same(self, are_sorted(ORDER, row, 1), True)
            same(self, sorted_words(ORDER, row, 2), (("a", "a"), ("a", "b"), ("b", "a")))

    def test_none_one_and_twelve(self):
        full = (TWELVE, (1,) * 11)
        words = tuple((letter,) for letter in TWELVE)
        for level in LEVELS:
            same(self, sorted_words(EMPTY, (), level), ())
            same(self, are_sorted(EMPTY, (), level), True)
            same(self, sorted_words(EMPTY, ((), ()), level), ((), ()))
            same(self, sorted_words(ORDER, (("c",),), level), (("c",),))
            same(self, sorted_words(full, words[::-1], level), words)
            same(self, are_sorted(full, words[::-1], level), False)


class Rows(unittest.TestCase):
    def test_longest_rows_of_neighbours(self):
        sizes = set()
        for order, words, level in tried(143, 200):
            words = reckoned_sorted(order, words, level)
            found = equal_rows(order, words, level)
            self.assertIsInstance(found, list)
            same(self, tuple(word for row in found for word in row), words)
            for row in found:
                sizes.add(len(row))
                self.assertIsInstance(row, tuple)
                self.assertTrue(row)
                for word in row:
                    self.assertEqual(reckoned_compare(order, row[0], word, level), 0)
            for one, other in zip(found, found[1:]):
                self.assertEqual(reckoned_compare(order, one[-1], other[0], level), -1)
        self.assertGreater(len(sizes), 3)

    def test_no_words(self):
        for level in LEVELS:
            same(self, equal_rows(ORDER, (), level), [])
            same(self, equal_rows(EMPTY, ((), (), ()), level), [((), (), ())])

    def test_a_changed_list_changes_no_later_answer(self):
        wanted = [(("b",),), (("b", "a"), ("a", "b")), (("c",),)]
        found = equal_rows(ORDER, WORDS, 1)
        same(self, found, wanted)
        found.reverse()
        found.append(())
        same(self, equal_rows(ORDER, WORDS, 1), wanted)
        self.assertIsNot(equal_rows(ORDER, WORDS, 1), equal_rows(ORDER, WORDS, 1))


class Places(unittest.TestCase):
    def test_words_that_are_among_them_and_others(self):
        chance = random.Random(144)
        kinds = set()
        for order, words, level in tried(145, 200):
            words = reckoned_sorted(order, words, level)
            for word in words[:4] + tuple(some_word(chance, order[0]) for _ in range(4)):
                found = place_of_word(order, words, word, level)
                signs = [reckoned_compare(order, other, word, level) for other in words]
                same(self, found, (signs.count(-1), len(words) - signs.count(1)))
                for place, other in enumerate(words):
                    self.assertEqual(found[0] <= place < found[1], compare(order, other, word, level) == 0)
                kinds.add((word in words, min(found[1] - found[0], 2)))
        self.assertEqual(kinds, {(True, 1), (True, 2), (False, 0), (False, 1), (False, 2)})

    def test_ahead_of_all_and_behind_all(self):
        for level in LEVELS:
            same(self, place_of_word(ORDER, (("b",), ("c",)), (), level), (0, 0))
            same(self, place_of_word(ORDER, (("b",), ("c",)), ("c", "a"), level), (2, 2))
            same(self, place_of_word(ORDER, (), ("a",), level), (0, 0))
            same(self, place_of_word(EMPTY, ((), ()), (), level), (0, 2))


class WrongArguments(unittest.TestCase):
    def test_each_function(self):
        order = ("order", ORDER, WRONG_ORDERS)
        words = ("words", WORDS, WRONG_TUPLES_OF_WORDS)
        level = ("level", 1, WRONG_LEVELS)
        for value in ((), WORDS, None):
            assert_bad_values(self, lambda one: is_words(one, value), [order])
        for function in (are_sorted, sorted_words, equal_rows):
            assert_bad_values(self, function, [order, words, level])
        assert_bad_values(self, place_of_word, [order, words, ("word", ("a",), WRONG_WORDS), level])

    def test_words_that_are_not_sorted(self):
        unsorted = (("c",), ("b",))
        for level in LEVELS:
            assert_bad_value(self, "words", equal_rows, (ORDER, unsorted, level))
            assert_bad_value(self, "words", place_of_word, (ORDER, unsorted, ("a",), level))
        assert_bad_value(self, "words", equal_rows, (ORDER, WORDS, 2))
        assert_bad_value(self, "words", place_of_word, (ORDER, WORDS, ("a",), 3))
        assert_bad_value(self, "words", place_of_word, (ORDER, (("a",),) * 11 + ((),), ("a",), 1))

    def test_that_is_checked_behind_the_level(self):
        unsorted = (("c",), ("b",))
        for level in WRONG_LEVELS:
            assert_bad_value(self, "level", equal_rows, (ORDER, unsorted, level))
            assert_bad_value(self, "level", place_of_word, (ORDER, unsorted, ("a",), level))
            assert_bad_value(self, "word", place_of_word, (ORDER, unsorted, ("z",), level))
        assert_bad_value(self, "word", place_of_word, (ORDER, unsorted, ("z",), 1))
        assert_bad_value(self, "words", place_of_word, (ORDER, unsorted + (("z",),), ("z",), 0))


class Printed(unittest.TestCase):
    def test_the_words_of_the_interface(self):
        same(self, sorted_words(ORDER, (("c",), ("b", "a"), ("a", "b"), ("b",)), 1), WORDS)
        same(self, equal_rows(ORDER, WORDS, 1), [(("b",),), (("b", "a"), ("a", "b")), (("c",),)])
        same(self, place_of_word(ORDER, WORDS, ("a", "a"), 1), (1, 3))
