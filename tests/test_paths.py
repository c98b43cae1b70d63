"""Points 2, 108 to 111, 115 and 116: paths, their lengths, and orders that lie between others."""

import functools
import random
import unittest
from itertools import combinations, permutations

from fewestrules.common import is_common
from fewestrules.fewest import distance, shortest_rules
from fewestrules.paths import direct, farthest, is_path, is_shortest, joined_rules, kept_along, length, lies_between
from fewestrules.steps import way
from tests.helpers import (ALIKE_TWELVE, NAMES, OTHER_VALUES, TWELVE, WRONG_ORDERS, alike_pairs, assert_bad_value,
                           assert_bad_values, assert_printed, orders_of, reckoned_led, reckoned_longest, rules_for,
                           same, some_order, steps_from)

FIRST = (("a", "b", "c"), (1, 1))
SECOND = (("c", "b", "a"), (1, 1))
ONE = (("a",), ())
EMPTY = ((), ())
# Six orders of twelve letters of which each is as far from the next one as can be.
FAR = (ALIKE_TWELVE, (TWELVE[::-1], (1,) * 11)) * 3
WRONG_PATHS = (
    None, True, 0, "", "a", (), [], FIRST, [FIRST], [FIRST, SECOND], {FIRST: 1}, (FIRST,) * 7, (SECOND,) * 8,
    (EMPTY,), (EMPTY, EMPTY), (FIRST, EMPTY), (EMPTY, FIRST), (FIRST, None), (None, FIRST), (None,), ((),),
    (FIRST, ONE), (ONE, FIRST), (FIRST, (("a", "b", "d"), (1, 1))), (FIRST, SECOND, (("a", "b"), (1,))),
    (FIRST, (("a", "b", "c", "d"), (1, 1, 1))), (FIRST, (("a", "b", "c"), (1,))), (FIRST, list(SECOND)),
    (FIRST, (("a", "b", "c"), (1, True))), ((("a", "b", "c"), (1, 4)),), (FIRST,) * 5 + (ONE,), (FIRST, "abc"),
    ((FIRST, SECOND),), ((("a", "b", "b"), (1, 1)),) * 2,
)
# Orders with other letters than a, b and c, and without letters.
NOT_OF_THESE = (EMPTY, ONE, (("a", "b"), (1,)), (("a", "b", "d"), (1, 1)), (("a", "b", "c", "d"), (1, 1, 1)),
                ALIKE_TWELVE)


def some_path(chance, letters, many):
    """A path of so many orders, some of them near to the one before it, some equal to it or to another one."""
    orders = [some_order(chance, letters, len(letters))]
    moving = [rule for letter in letters for rule in rules_for(letters, letter)]
    while len(orders) < many:
        kind = chance.randrange(4)
        if kind == 0:
            orders.append(some_order(chance, letters, len(letters)))
        elif kind == 1:
            orders.append(chance.choice(orders))
        else:
            orders.append(reckoned_led(orders[-1], chance.sample(moving, min(kind, len(moving)))))
    return tuple(orders)


def some_paths(seed, many, most=12):
    """Paths of 1 to 6 orders, of 1 to most letters."""
    chance = random.Random(seed)
    for turn in range(many):
        yield some_path(chance, chance.sample(NAMES, turn // 6 % most + 1), turn % 6 + 1)


def reckoned_distance(first, second):
    """The number of letters that are in no longest common list, of orders of the same letters."""
    return len(first[0]) - len(reckoned_longest(first, second)[0])


@functools.lru_cache(None)
def small_distances(letters):
    """For each order of the letters the numbers of rules to all others, found by search."""
    return {first: steps_from(first, letters) for first in orders_of(letters)}


class Paths(unittest.TestCase):
    def test_number_of_orders(self):
        for order in (ONE, FIRST, ALIKE_TWELVE):
            for many in range(9):
                same(self, is_path((order,) * many), 1 <= many <= 6)
        same(self, is_path(FAR), True)
        same(self, is_path(FAR + FAR[:1]), False)

    def test_orders_of_the_same_letters(self):
        for path in some_paths(200, 100):
            same(self, is_path(path), True)
            letters = path[0][0]
            for at in range(len(path)):
                wrong = (letters[:-1] + ("zz",), path[0][1])
                shorter = (letters[:-1], path[0][1][:-1])
                for other in (wrong, shorter, EMPTY, None, list(path[at])):
                    if len(path) > 1 or other not in (wrong, shorter):
                        same(self, is_path(path[:at] + (other,) + path[at + 1:]), False)

    def test_values_of_other_forms(self):
        for value in WRONG_PATHS + OTHER_VALUES + WRONG_ORDERS:
            same(self, is_path(value), False)
        for order in WRONG_ORDERS:
            same(self, is_path((order,)), False)
            same(self, is_path((FIRST, order)), False)


class Lengths(unittest.TestCase):
    def test_against_the_distances(self):
        kinds = set()
        for path in some_paths(201, 150, 9):
            steps = [reckoned_distance(one, other) for one, other in zip(path, path[1:])]
            whole = reckoned_distance(path[0], path[-1])
            same(self, length(path), sum(steps))
            same(self, direct(path), whole)
            same(self, is_shortest(path), sum(steps) == whole)
            self.assertLessEqual(whole, sum(steps))
            kinds.add((len(path), is_shortest(path)))
        self.assertEqual(len(kinds), 10)

    def test_small_orders_against_a_search(self):
        distances = small_distances(("a", "b", "c"))
        orders = list(distances)
        chance = random.Random(202)
        for _ in range(600):
            path = tuple(chance.choice(orders) for _ in range(chance.randrange(1, 7)))
            same(self, length(path), sum(distances[one][other] for one, other in zip(path, path[1:])))
            same(self, direct(path), distances[path[0]][path[-1]])

    def test_one_order(self):
        for path in ((ONE,), (FIRST,), (ALIKE_TWELVE,)):
            same(self, (length(path), direct(path), is_shortest(path), farthest(path)), (0, 0, True, 0))
            same(self, (joined_rules(path), kept_along(path)), ((), path[0][0]))

    def test_one_letter(self):
        for many in range(1, 7):
            path = (ONE,) * many
            same(self, (length(path), direct(path), is_shortest(path), farthest(path)), (0, 0, True, 0))
            same(self, (joined_rules(path), kept_along(path)), ((), ("a",)))

    def test_equal_orders(self):
        for order in (FIRST, ALIKE_TWELVE, (TWELVE, (1, 2, 3) * 3 + (2, 1))):
            path = (order,) * 6
            same(self, (length(path), direct(path), is_shortest(path), farthest(path)), (0, 0, True, 0))
            same(self, (joined_rules(path), kept_along(path)), ((), order[0]))

    def test_six_orders_of_twelve_letters(self):
        same(self, length(FAR), 55)
        same(self, direct(FAR), 11)
        same(self, is_shortest(FAR), False)
        same(self, len(joined_rules(FAR)), 55)
        same(self, direct(FAR[:5]), 0)
        same(self, length(FAR[:2]), 11)
        same(self, is_shortest(FAR[:2]), True)

    def test_a_way_and_back(self):
        same(self, (length((FIRST, SECOND, FIRST)), direct((FIRST, SECOND, FIRST))), (4, 0))
        same(self, is_shortest((FIRST, SECOND, FIRST)), False)
        same(self, is_shortest((FIRST, FIRST, SECOND, SECOND)), True)

    def test_farthest(self):
        places = set()
        for path in some_paths(203, 150, 8):
            distances = [reckoned_distance(path[0], order) for order in path]
            found = farthest(path)
            same(self, found, min(range(len(path)), key=lambda at: (-distances[at], at)))
            places.add(found)
        self.assertEqual(places, set(range(6)))
        same(self, farthest((FIRST, (("b", "a", "c"), (1, 1)), (("a", "b", "c"), (1, 2)), FIRST)), 1)
        same(self, farthest((FIRST, FIRST, SECOND, SECOND)), 2)


class Joined(unittest.TestCase):
    def test_shortest_lists_one_after_another(self):
        for path in some_paths(204, 150):
            rules = joined_rules(path)
            at = 0
            order = path[0]
            for one, other in zip(path, path[1:]):
                part = shortest_rules(one, other)
                same(self, rules[at:at + len(part)], part)
                order = reckoned_led(order, part)
                same(self, order, other)
                at += len(part)
            same(self, at, len(rules))
            same(self, length(path), len(rules))
            same(self, reckoned_led(path[0], rules), path[-1])

    def test_letters_that_are_kept_along(self):
        sizes = set()
        for path in some_paths(205, 200):
            kept = kept_along(path)
            moved = {rule[3] for rule in joined_rules(path)}
            same(self, kept, tuple(letter for letter in path[0][0] if letter not in moved))
            for order in path:
                same(self, is_common(path[0], order, kept), True)
            sizes.add((bool(kept), bool(moved), len(path)))
        self.assertGreater(len(sizes), 12)

    def test_more_than_twenty_rules(self):
        rules = joined_rules(FAR)
        same(self, reckoned_led(FAR[0], rules), FAR[-1])
        # The first letter of each order is kept by the way to the next one: a, then l, then a again.
        same(self, kept_along(FAR[:2]), ("l",))
        same(self, [rule[3] for rule in rules[:11]].count("l"), 0)
        moved = {rule[3] for rule in rules}
        same(self, kept_along(FAR), tuple(letter for letter in TWELVE if letter not in moved))


class Between(unittest.TestCase):
    def test_small_orders_against_a_search(self):
        distances = small_distances(("a", "b", "c"))
        orders = list(distances)
        told = {True: 0, False: 0}
        for at, middle in enumerate(orders):
            for first in orders[at % 3::3]:
                for second in orders[at % 5::5]:
                    wanted = distances[first][middle] + distances[middle][second] == distances[first][second]
                    same(self, lies_between(middle, first, second), wanted)
                    told[wanted] += 1
        self.assertGreater(told[True], 1000)
        self.assertGreater(told[False], 1000)

    def test_it_is_that_the_path_is_shortest(self):
        told = set()
        for path in some_paths(206, 300, 10):
            for at in range(len(path)):
                first, middle, second = path[0], path[at], path[-1]
                wanted = is_shortest((first, middle, second))
                same(self, lies_between(middle, first, second), wanted)
                same(self, lies_between(middle, second, first), wanted)
                told.add((wanted, middle in (first, second), len(first[0]) > 3))
        self.assertEqual(len(told), 6)

    def test_the_ends_lie_between(self):
        for first, second in alike_pairs(207, 36):
            same(self, lies_between(first, first, second), True)
            same(self, lies_between(second, first, second), True)
            same(self, lies_between(second, first, first), first == second)
        same(self, lies_between(ONE, ONE, ONE), True)

    def test_shortest_paths(self):
        for first, second in alike_pairs(208, 27, 9):
            row = way(first, second)
            for many in range(min(len(row), 4) + 1):
                for inner in list(combinations(row, many))[:8]:
                    path = (first,) + inner + (second,)
                    same(self, is_shortest(path), True)
                    for one, other in zip(path, path[1:]):
                        same(self, lies_between(one, first, second), True)
                        same(self, is_shortest((first, one, other, second)), True)

    def test_orders_in_another_sequence_make_no_shortest_path(self):
        for first, second in alike_pairs(209, 40, 8):
            row = way(first, second)[1:-1][:4]
            for inner in list(permutations(row))[1:7]:
                same(self, is_shortest((first,) + inner + (second,)), False)

    def test_distances_of_the_interface(self):
        same(self, lies_between((("b", "c", "a"), (1, 1)), FIRST, SECOND), True)
        same(self, lies_between((("a", "c", "b"), (1, 1)), FIRST, SECOND), True)
        same(self, lies_between((("b", "c", "a"), (2, 1)), FIRST, SECOND), False)
        same(self, [distance(FIRST, (("b", "c", "a"), (2, 1))), distance((("b", "c", "a"), (2, 1)), SECOND)], [2, 1])


class WrongArguments(unittest.TestCase):
    def test_paths(self):
        for function in (length, direct, is_shortest, farthest, joined_rules, kept_along):
            assert_bad_values(self, function, [("orders", (FIRST, SECOND), WRONG_PATHS)])

    def test_orders_between(self):
        middle = ("middle", (("b", "a", "c"), (2, 3)), WRONG_ORDERS + (EMPTY,))
        first = ("first", FIRST, WRONG_ORDERS + NOT_OF_THESE)
        second = ("second", SECOND, WRONG_ORDERS + NOT_OF_THESE)
        assert_bad_values(self, lies_between, [middle, first, second])

    def test_letters_of_the_middle(self):
        assert_bad_value(self, "first", lies_between, (ONE, FIRST, SECOND))
        assert_bad_value(self, "second", lies_between, (FIRST, SECOND, ONE))
        assert_bad_value(self, "first", lies_between, (FIRST, ONE, ONE))
        assert_bad_value(self, "middle", lies_between, (EMPTY, EMPTY, EMPTY))


class Printed(unittest.TestCase):
    def test_point_116(self):
        same(self, direct((FIRST, SECOND)), 2)

    def test_interface(self):
        assert_printed(self, '''
>>> from fewestrules.paths import direct, kept_along, length, lies_between
>>> from fewestrules.steps import is_one_rule_away, is_shortest_row, way
>>> first = (("a", "b", "c"), (1, 1))
>>> second = (("c", "b", "a"), (1, 1))
>>> way(first, second)
((('a', 'b', 'c'), (1, 1)), (('a', 'c', 'b'), (1, 1)), (('c', 'b', 'a'), (1, 1)))
>>> lies_between((("b", "c", "a"), (1, 1)), first, second), lies_between((("a", "c", "b"), (1, 1)), first, second)
(True, True)
>>> length((first, (("b", "c", "a"), (2, 1)), second)), direct((first, second)), kept_along((first, second))
(3, 2, ('c',))
>>> is_one_rule_away(first, second), is_one_rule_away(first, (("a", "b", "c"), (1, 2)))
(False, True)
>>> is_shortest_row(first, second, way(first, second), (1, 1, 1))
True
''')
