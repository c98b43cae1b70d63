"""Points 2, 82 to 87: orders that compare alike, and words that tell two orders apart."""

import functools
import random
import unittest
from itertools import combinations, product

from fewestrules.telling import compare_alike, shows_unlike, telling_words
from fewestrules.words import compare
from tests.helpers import (OTHER_VALUES, TWELVE, WRONG_LEVELS, WRONG_ORDERS, WRONG_TUPLES_OF_WORDS, WRONG_WORDS,
                           assert_bad_value, assert_bad_values, assert_printed, orders_of, reckoned_compare,
                           reckoned_led, rules_for, same, short_words, some_order, some_orders, some_words)

ORDER = (("a", "b", "c"), (2, 1))
ONES = (("a", "b", "c"), (1, 1))
EMPTY = ((), ())
LEVELS = (1, 2, 3)
FOUR = ("a", "b", "c", "d")
FOUR_ONES = (FOUR, (1, 1, 1))


@functools.lru_cache(None)
def signs_of(order, level):
    """How the order compares each two words of at most two of its letters, whatever its own sequence is."""
    words = short_words(sorted(order[0]))
    return tuple(reckoned_compare(order, one, other, level) for one, other in combinations(words, 2))


def reckoned_telling(first, second, level):
    """The first pair of words of point 84 that the orders compare differently, or None."""
    for one, other in combinations(short_words(first[0]), 2):
        if reckoned_compare(first, one, other, level) != reckoned_compare(second, one, other, level):
            return one, other
    return None


def some_alike(chance, order, level):
    """An order that compares like this one at the level."""
    letters, strengths = list(order[0]), list(order[1])
    kinds = set(strengths)
    if level == 3 and not {2, 3} <= kinds:
        return tuple(letters), tuple({2: 3, 3: 2}.get(strength, 1) for strength in strengths)
    at = 0
    while at < len(letters):
        end = at
        while end < len(strengths) and strengths[end] > level:
            end += 1
        letters[at:end + 1] = chance.sample(letters[at:end + 1], end + 1 - at)
        strengths[at:end] = [chance.randint(level + 1, 3) for _ in strengths[at:end]]
        at = end + 1
    return tuple(letters), tuple(strengths)


def pairs_of_orders(seed, many):
    """Orders of the same letters: alike at a level, with one rule between them, and any two; with each level."""
    chance = random.Random(seed)
    for turn, first in enumerate(some_orders(seed, many)):
        for level in LEVELS:
            second = some_order(chance, first[0], len(first[0]))
            if turn % 3 == 0:
                second = some_alike(chance, first, level)
            if turn % 3 == 1 and len(first[0]) > 1:
                rule = chance.choice([rule for letter in first[0] for rule in rules_for(first[0], letter)])
                second = reckoned_led(first, (rule,))
            yield first, second, level


class Alike(unittest.TestCase):
    def test_all_orders_of_up_to_three_letters(self):
        for letters in ((), ("a",), ("a", "b"), ("a", "b", "c")):
            for first, second in product(list(orders_of(letters)), repeat=2):
                for level in LEVELS:
                    wanted = signs_of(first, level) == signs_of(second, level)
                    same(self, compare_alike(first, second, level), wanted)

    def test_orders_of_four_letters(self):
        orders = list(orders_of(FOUR))
        alike = {}
        for order, level in product(orders, LEVELS):
            alike.setdefault((level, signs_of(order, level)), []).append(order)
        for (level, _), rows in alike.items():
            for other in rows:
                same(self, compare_alike(rows[0], other, level), True)
                same(self, compare_alike(other, rows[0], level), True)
        # Of orders that compare differently, neighbours in the list differ least.
        firsts = [(level, rows[0]) for (level, _), rows in alike.items()]
        for place, (level, first) in enumerate(firsts):
            for other_level, second in firsts[place + 1:place + 40]:
                if other_level == level:
                    same(self, compare_alike(first, second, level), False)
        for first, second in zip(orders, orders[1:] + orders[:1]):
            for level in LEVELS:
                wanted = signs_of(first, level) == signs_of(second, level)
                same(self, compare_alike(first, second, level), wanted)

    def test_the_strengths_2_and_3_at_the_level_3(self):
        for ones, others in product(product(LEVELS, repeat=3), repeat=2):
            first, second = (FOUR, ones), (FOUR, others)
            wanted = ones == others
            if not {2, 3} <= set(ones) and not {2, 3} <= set(others):
                wanted = [x == 1 for x in ones] == [x == 1 for x in others]
            same(self, compare_alike(first, second, 3), wanted)
            same(self, signs_of(first, 3) == signs_of(second, 3), wanted)

    def test_that_case_is_only_at_the_level_3(self):
        twos, threes = (("a", "b", "c"), (2, 1)), (("a", "b", "c"), (3, 1))
        same(self, [compare_alike(twos, threes, level) for level in LEVELS], [True, False, True])
        mixed = (FOUR, (2, 1, 3)), (FOUR, (3, 1, 2)), (FOUR, (2, 1, 2)), (FOUR, (3, 1, 3))
        same(self, [compare_alike(mixed[0], other, 3) for other in mixed], [True, False, False, False])
        same(self, [compare_alike(mixed[2], other, 3) for other in mixed], [False, False, True, True])

    def test_groups_with_their_letters_in_another_sequence(self):
        first, second = (FOUR, (3, 2, 1)), (("c", "b", "a", "d"), (2, 3, 1))
        same(self, [compare_alike(first, second, level) for level in LEVELS], [True, False, False])
        second = (("b", "a", "c", "d"), (3, 2, 1))
        same(self, [compare_alike(first, second, level) for level in LEVELS], [True, True, False])

    def test_long_words(self):
        chance = random.Random(150)
        told = []
        for first, second, level in pairs_of_orders(150, 120):
            alike = compare_alike(first, second, level)
            told.append(alike)
            if alike:
                for one, other in combinations(some_words(chance, first, 8), 2):
                    same(self, compare(second, one, other, level), compare(first, one, other, level))
        self.assertGreater(told.count(True), 60)
        self.assertGreater(told.count(False), 60)

    def test_orders_of_up_to_twelve_letters(self):
        for first, second, level in pairs_of_orders(151, 60):
            wanted = reckoned_telling(first, second, level) is None
            same(self, compare_alike(first, second, level), wanted)
            same(self, compare_alike(first, first, level), True)


class TellingWords(unittest.TestCase):
    def test_all_orders_of_up_to_three_letters(self):
        for letters in ((), ("a",), ("b", "a"), ("a", "b", "c")):
            orders = list(orders_of(letters))
            for at, first in enumerate(orders):
                for second, level in product(orders[at % 3::3], LEVELS):
                    same(self, telling_words(first, second, level), reckoned_telling(first, second, level))

    def test_larger_orders(self):
        for first, second, level in pairs_of_orders(152, 60):
            found = telling_words(first, second, level)
            same(self, found, reckoned_telling(first, second, level))
            if found is not None:
                same(self, shows_unlike(first, second, level, found), True)

    def test_the_sequence_goes_by_the_first_order(self):
        first, second = (("b", "a", "c"), (1, 1)), (("a", "b", "c"), (1, 1))
        same(self, telling_words(first, second, 1), (("b",), ("a",)))
        same(self, telling_words(second, first, 1), (("a",), ("b",)))
        same(self, telling_words(first, (("b", "c", "a"), (1, 1)), 1), (("a",), ("c",)))

    def test_words_of_two_letters(self):
        for ones, others, wanted in (((2, 1, 3), (3, 1, 2), (("a", "d"), ("b", "c"))),
                                     ((2, 1, 3), (2, 1, 2), (("c", "b"), ("d", "a"))),
                                     ((1, 2, 2), (1, 2, 3), (("c", "c"), ("d", "b"))),
                                     ((1, 2, 2), (1, 3, 2), (("b", "d"), ("c", "b")))):
            first, second = (FOUR, ones), (FOUR, others)
            same(self, telling_words(first, second, 3), wanted)
            same(self, reckoned_telling(first, second, 3), wanted)

    def test_equal_orders(self):
        for order in list(some_orders(153, 24)) + [EMPTY]:
            for level in LEVELS:
                same(self, telling_words(order, order, level), None)


class Judge(unittest.TestCase):
    def test_short_words_of_small_orders(self):
        told = []
        orders = list(orders_of(("a", "b", "c")))
        words = short_words(("a", "b", "c"))
        for first, second in zip(orders[::2], orders[::-3] * 2):
            for one, other in product(words, repeat=2):
                for level in LEVELS:
                    signs = reckoned_compare(first, one, other, level), reckoned_compare(second, one, other, level)
                    wanted = signs[0] != signs[1]
                    same(self, shows_unlike(first, second, level, (one, other)), wanted)
                    told.append(wanted)
        self.assertGreater(told.count(True), 100)

    def test_long_words(self):
        chance = random.Random(154)
        told = []
        for first, second, level in pairs_of_orders(154, 120):
            for one, other in combinations(some_words(chance, first, 5), 2):
                signs = reckoned_compare(first, one, other, level), reckoned_compare(second, one, other, level)
                same(self, shows_unlike(first, second, level, (one, other)), signs[0] != signs[1])
                same(self, shows_unlike(first, second, level, (other, one)), signs[0] != signs[1])
                told.append(signs[0] != signs[1])
        self.assertGreater(told.count(True), 100)

    def test_words_of_another_sign_or_equal_in_one_order(self):
        first, second = (("a", "b"), (1,)), (("a", "b"), (2,))
        same(self, shows_unlike(first, second, 1, (("a",), ("b",))), True)
        same(self, shows_unlike(second, first, 1, (("a",), ("b",))), True)
        same(self, shows_unlike(first, second, 2, (("a",), ("b",))), False)
        same(self, shows_unlike(first, (("b", "a"), (1,)), 1, (("a",), ("b",))), True)
        same(self, shows_unlike(first, second, 1, (("a",), ("a",))), False)
        same(self, shows_unlike(first, second, 1, ((), ("a",))), False)

    def test_values_of_other_forms(self):
        first, second = ONES, (("c", "b", "a"), (1, 1))
        same(self, shows_unlike(first, second, 1, (("a",), ("b",))), True)
        for value in OTHER_VALUES + WRONG_TUPLES_OF_WORDS:
            same(self, shows_unlike(first, second, 1, value), False)
        for value in ([("a",), ("b",)], (["a"], ("b",)), (("a",), ["b"]), (("a",),), (("a",), ("b",), ("c",)),
                      ("a", "b"), (("a",), ("z",)), (("z",), ("a",)), (("a",), ("b",) * 13), (("a",) * 13, ("b",)),
                      (("a",), None), (None, ("b",)), {("a",): ("b",)}):
            same(self, shows_unlike(first, second, 1, value), False)
        for value in WRONG_WORDS:
            same(self, shows_unlike(first, second, 1, (("a",), value)), False)
            same(self, shows_unlike(first, second, 1, (value, ("a",))), False)
        same(self, shows_unlike(first, second, 1, (("a",) * 12, ("b",) * 12)), True)
        for value in OTHER_VALUES:
            same(self, shows_unlike(EMPTY, EMPTY, 3, value), False)
        same(self, shows_unlike(EMPTY, EMPTY, 3, ((), ())), False)


class WrongArguments(unittest.TestCase):
    def test_each_function(self):
        others = ((("a", "b"), (1,)), FOUR_ONES, EMPTY, (("a", "b", "d"), (1, 1)))
        arguments = [("first", ORDER, WRONG_ORDERS), ("second", (("b", "c", "a"), (1, 3)), WRONG_ORDERS + others),
                     ("level", 2, WRONG_LEVELS)]
        for function in (compare_alike, telling_words):
            assert_bad_values(self, function, arguments)
        for value in ((("a",), ("b",)), None, (("z",), ())):
            assert_bad_values(self, lambda first, second, level: shows_unlike(first, second, level, value), arguments)

    def test_orders_of_other_letters(self):
        for first, second in ((ORDER, FOUR_ONES), (FOUR_ONES, ORDER), (EMPTY, ORDER), (ORDER, EMPTY),
                              ((TWELVE, (1,) * 11), (TWELVE[1:] + ("m",), (1,) * 11))):
            for function in (compare_alike, telling_words):
                assert_bad_value(self, "second", function, (first, second, 1))
                assert_bad_value(self, "second", function, (first, second, 0))


class Printed(unittest.TestCase):
    def test_interface(self):
        assert_printed(self, '''
>>> from fewestrules.sorting import equal_rows, place_of_word, sorted_words
>>> from fewestrules.telling import compare_alike, shows_unlike, telling_words
>>> from fewestrules.words import compare, key, weights
>>> order = (("a", "b", "c"), (2, 1))
>>> weights(order, "b"), key(order, ("c", "b"), 3)
((1, 2, 1), ((2, 1), (1, 2), (1, 1)))
>>> compare(order, ("b", "a"), ("a", "b"), 1), compare(order, ("b", "a"), ("a", "b"), 2)
(0, 1)
>>> sorted_words(order, (("c",), ("b", "a"), ("a", "b"), ("b",)), 1)
(('b',), ('b', 'a'), ('a', 'b'), ('c',))
>>> equal_rows(order, (("b",), ("b", "a"), ("a", "b"), ("c",)), 1)
[(('b',),), (('b', 'a'), ('a', 'b')), (('c',),)]
>>> place_of_word(order, (("b",), ("b", "a"), ("a", "b"), ("c",)), ("a", "a"), 1)
(1, 3)
>>> compare_alike(order, (("a", "b", "c"), (3, 1)), 3), compare_alike(order, (("a", "b", "c"), (1, 1)), 3)
(True, False)
>>> telling_words(order, (("a", "b", "c"), (1, 1)), 3)
(('b',), ('a', 'a'))
>>> shows_unlike(order, (("a", "b", "c"), (1, 1)), 3, (("b",), ("a", "b")))
True
''')
