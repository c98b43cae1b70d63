"""Points 2 and 99 to 107: conflicts of rule lists, interleavings, and merged lists."""

import random
import unittest
from itertools import combinations, permutations, product
from math import comb

from fewestrules.errors import TooLarge
from fewestrules.merging import (conflicts, count_interleavings, first_conflict, interleaved, merged, merged_all,
                                 shows_conflict, unaffected)
from fewestrules.rules import is_rule_list
from tests.helpers import (GOOD_RULE, NAMES, OTHER_VALUES, TWELVE, WRONG_ORDERS, WRONG_RULE_LISTS, assert_bad_value,
                           assert_bad_values, assert_printed, orders_of, orders_within, reckoned_can, reckoned_first,
                           reckoned_or_none, reckoned_shows, rules_for, same, some_list, some_order)

ONE = (("after", "c", 1, "a"),)
OTHER = (("after", "c", 2, "d"), ("before", "d", 3, "e"))
THIRD = (("before", "b", 1, "e"), ("after", "a", 2, "b"))
ORDER = (("a", "b", "c"), (1, 1))
# Rules of which each two can be exchanged.
APART = tuple(("after", f"a{at}", 3, f"b{at}") for at in range(42))
SMALL_ORDERS = list(orders_within(("a", "b", "c")))
# Rule lists of which the first and the last one alone have a conflict.
ENDS = ((APART[0],), (APART[1], APART[2]), (), (APART[3],), (APART[4], APART[5]), (("before", "b0", 1, "b6"),))


def two_lists(seed, many, most=7):
    """Pairs of rule lists: with many conflicts, with few, with none."""
    chance = random.Random(seed)
    for turn in range(many):
        anchors, letters = NAMES[:1 + turn % 4], NAMES[:5 + turn % 8]
        one = some_list(chance, chance.randrange(most + 1), anchors, letters)
        other = some_list(chance, chance.randrange(most + 1), anchors, letters)
        if turn % 3 == 0:
            # Without conflicts: what cannot be exchanged with each rule of one is left out.
            other = tuple(rule for rule in other if all(reckoned_can(rule, own) for own in one))
        yield one, other


def lists_without_conflict(seed, many, most=4):
    """Pairs of rule lists over few letters, not empty, that have no conflict."""
    chance = random.Random(seed)
    found = 0
    while found < many:
        one, other = [some_list(chance, chance.randrange(1, most), NAMES[:3], NAMES[:5]) for _ in range(2)]
        if not reckoned_conflicts(one, other):
            found += 1
            yield one, other


def reckoned_conflicts(one, other):
    return sorted((i, j) for j, rule in enumerate(other) for i, own in enumerate(one) if not reckoned_can(own, rule))


def all_marks(one, other):
    """All tuples of marks, as point 100 tells them."""
    many = len(one) + len(other)
    for places in combinations(range(many), len(other)):
        yield tuple(int(at in places) for at in range(many))


def reckoned_interleaving(one, other, marks):
    """What the marks tell, taken from the left ends of both lists."""
    left = {0: list(one), 1: list(other)}
    return tuple(left[mark].pop(0) for mark in marks)


class Conflicts(unittest.TestCase):
    def test_against_all_pairs(self):
        sizes = set()
        for one, other in two_lists(180, 300):
            wanted = reckoned_conflicts(one, other)
            same(self, conflicts(one, other), wanted)
            sizes.add(min(len(wanted), 6))
        self.assertEqual(len(sizes), 7)

    def test_the_other_way_round(self):
        for one, other in two_lists(181, 200):
            same(self, conflicts(other, one), sorted((j, i) for i, j in conflicts(one, other)))

    def test_lists_of_twenty_rules(self):
        chance = random.Random(182)
        for _ in range(10):
            one, other = some_list(chance, 20), some_list(chance, 20, NAMES[:4], NAMES)
            same(self, conflicts(one, other), reckoned_conflicts(one, other))
        moving = tuple(("after", f"a{at}", 1, "x") for at in range(20))
        wanted = [(i, j) for i in range(20) for j in range(20) if i != j]
        same(self, conflicts(moving, moving), wanted)

    def test_no_rules(self):
        for one, other in (((), ()), (ONE, ()), ((), THIRD)):
            same(self, conflicts(one, other), [])
            same(self, unaffected(one, other), other)
            same(self, first_conflict(one, other), None)
            same(self, merged(one, other), one + other)
            same(self, count_interleavings(one, other), 1)

    def test_equal_rules_have_no_conflict(self):
        same(self, conflicts((GOOD_RULE,), (GOOD_RULE, GOOD_RULE)), [])
        same(self, merged((GOOD_RULE,), (GOOD_RULE,)), (GOOD_RULE, GOOD_RULE))
        same(self, conflicts((GOOD_RULE,), (("after", "a", 2, "x"),)), [(0, 0)])

    def test_dependent_rules_of_one_list_are_none(self):
        self.assertFalse(reckoned_can(*OTHER))
        same(self, conflicts(OTHER, ONE), [])
        same(self, merged(OTHER, ONE), OTHER + ONE)

    def test_a_changed_list_changes_no_later_answer(self):
        found = conflicts(ONE, THIRD)
        same(self, found, [(0, 1)])
        found.append((0, 0))
        same(self, conflicts(ONE, THIRD), [(0, 1)])
        self.assertIsNot(conflicts(ONE, THIRD), conflicts(ONE, THIRD))


class Unaffected(unittest.TestCase):
    def test_rules_in_no_conflict(self):
        some = 0
        for one, other in two_lists(183, 300):
            wanted = tuple(rule for rule in other if all(reckoned_can(own, rule) for own in one))
            found = unaffected(one, other)
            same(self, found, wanted)
            same(self, conflicts(one, found), [])
            same(self, merged(one, found), one + found)
            some += 0 < len(found) < len(other)
        self.assertGreater(some, 50)

    def test_it_is_told_of_the_other_list(self):
        same(self, unaffected(ONE, THIRD), THIRD[:1])
        same(self, unaffected(THIRD, ONE), ())
        same(self, unaffected(ONE, OTHER), OTHER)


class Interleavings(unittest.TestCase):
    def test_all_marks(self):
        for one, other in two_lists(184, 60, 4):
            rows = list(all_marks(one, other))
            same(self, count_interleavings(one, other), len(rows))
            for marks in rows:
                found = interleaved(one, other, marks)
                same(self, found, reckoned_interleaving(one, other, marks))
                same(self, is_rule_list(found), True)

    def test_the_number(self):
        for one, other in product(range(21), repeat=2):
            same(self, count_interleavings(APART[:one], APART[20:20 + other]), comb(one + other, one))
        same(self, count_interleavings(APART[:20], APART[:20]), 137846528820)
        same(self, count_interleavings(ONE, OTHER), 3)

    def test_with_conflicts(self):
        same(self, interleaved(ONE, THIRD, (1, 1, 0)), THIRD + ONE)
        same(self, interleaved(ONE, THIRD, (0, 1, 1)), ONE + THIRD)
        same(self, interleaved(ONE, THIRD, (1, 0, 1)), (THIRD[0], ONE[0], THIRD[1]))
        same(self, interleaved((), (), ()), ())

    def test_without_a_conflict_all_do_the_same_on_small_orders(self):
        applied, refused = 0, 0
        for one, other in lists_without_conflict(185, 60):
            rows = [interleaved(one, other, marks) for marks in all_marks(one, other)]
            for order in SMALL_ORDERS[::3]:
                results = {reckoned_or_none(order, rules) for rules in rows}
                self.assertEqual(len(results), 1, (one, other, order))
                same(self, results == {reckoned_or_none(order, merged(one, other))}, True)
                applied += None not in results
                refused += None in results
        self.assertGreater(applied, 100)
        self.assertGreater(refused, 100)

    def test_without_a_conflict_all_do_the_same_on_large_orders(self):
        chance = random.Random(186)
        results = set()
        for one, other in lists_without_conflict(187, 60):
            for many in (5, 11, 12):
                order = some_order(chance, NAMES, many)
                found = {reckoned_or_none(order, interleaved(one, other, marks)) for marks in all_marks(one, other)}
                self.assertEqual(len(found), 1, (one, other, order))
                results |= found
        self.assertIn(None, results)
        self.assertGreater(len(results), 50)

    def test_with_a_conflict_some_order_shows_it(self):
        for one, other in two_lists(188, 40, 3):
            for (i, j) in conflicts(one, other):
                found = first_conflict((one[i],), (other[j],))
                same(self, found[0], (0, 0))
                self.assertTrue(reckoned_shows(one[i], other[j], found[1]))


class Merged(unittest.TestCase):
    def test_one_followed_by_other(self):
        kinds = set()
        for one, other in two_lists(189, 200):
            wanted = None if reckoned_conflicts(one, other) else one + other
            same(self, merged(one, other), wanted)
            same(self, merged_all([one, other]), wanted)
            kinds.add((wanted is None, bool(one), bool(other)))
        self.assertGreaterEqual(len(kinds), 5)

    def test_twenty_rules_and_twenty_one(self):
        for many in range(1, 21):
            same(self, merged(APART[:many], APART[many:20]), APART[:20])
            same(self, merged_all([APART[:many], (), APART[many:20]]), APART[:20])
            for function in (merged, lambda one, other: merged_all([one, other]),
                             lambda one, other: merged_all([one, (), other])):
                with self.assertRaises(TooLarge) as caught:
                    function(APART[:many], APART[many:21])
                same(self, caught.exception.what, "rules")

    def test_a_conflict_with_more_than_twenty_rules(self):
        one, other = APART[:20], APART[20:30] + (("after", "b0", 1, "z"),)
        same(self, conflicts(one, other), [(0, 10)])
        same(self, merged(one, other), None)
        same(self, merged_all([one, other]), None)
        same(self, merged_all([one, APART[30:42], other]), None)
        same(self, merged_all([one, APART[20:40], APART[:20], (("after", "b0", 1, "z"),)]), None)

    def test_too_many_rules_of_interleavings(self):
        same(self, interleaved(APART[:20], (), (0,) * 20), APART[:20])
        same(self, interleaved(APART[:9], APART[9:20], (0, 1) * 9 + (1, 1)),
             tuple(rule for at in range(9) for rule in (APART[at], APART[9 + at])) + APART[18:20])
        for one, other, marks in ((APART[:20], APART[20:21], (0,) * 20 + (1,)),
                                  (APART[:1], APART[1:21], (0,) + (1,) * 20),
                                  (APART[:20], APART[:20], (0, 1) * 20), (ONE * 20, THIRD[1:], (1,) + (0,) * 20)):
            with self.assertRaises(TooLarge) as caught:
                interleaved(one, other, marks)
            same(self, caught.exception.what, "rules")

    def test_several_lists(self):
        same(self, merged_all([ONE]), ONE)
        same(self, merged_all([()]), ())
        same(self, merged_all([()] * 6), ())
        same(self, merged_all([THIRD]), THIRD)
        same(self, merged_all(list(ENDS[:-1])), sum(ENDS[:-1], ()))
        same(self, merged_all(list(ENDS[1:])), sum(ENDS[1:], ()))

    def test_a_conflict_of_the_first_and_the_last_one_alone(self):
        for one, other in combinations(range(6), 2):
            same(self, bool(conflicts(ENDS[one], ENDS[other])), (one, other) == (0, 5))
        same(self, merged_all(list(ENDS)), None)
        for row in list(permutations(ENDS))[::37]:
            same(self, merged_all(list(row)), None)

    def test_against_all_pairs_of_lists(self):
        chance = random.Random(190)
        told = set()
        for turn in range(250):
            letters = NAMES[:6 + turn % 6]
            lists = [some_list(chance, chance.randrange(3), NAMES[:2], letters) for _ in range(1 + turn % 6)]
            found = any(reckoned_conflicts(one, other) for one, other in combinations(lists, 2))
            wanted = None if found else tuple(rule for rules in lists for rule in rules)
            given = list(lists)
            same(self, merged_all(given), wanted)
            same(self, given, lists)
            told.add((found, len(lists)))
        self.assertGreaterEqual(len(told), 10)

    def test_every_sequence_of_the_lists_does_the_same(self):
        chance = random.Random(191)
        found = 0
        while found < 25:
            lists = [some_list(chance, chance.randrange(1, 3), NAMES[:3], NAMES[:7]) for _ in range(3)]
            if merged_all(lists) is None:
                continue
            found += 1
            rows = [merged_all(list(row)) for row in permutations(lists)]
            for order in SMALL_ORDERS[::4] + [some_order(chance, NAMES, 12)]:
                self.assertEqual(len({reckoned_or_none(order, rules) for rules in rows}), 1)


class Evidence(unittest.TestCase):
    def test_the_first_conflict_with_the_first_order(self):
        kinds = set()
        for one, other in two_lists(192, 60, 4):
            found = reckoned_conflicts(one, other)
            wanted = None
            if found:
                wanted = found[0], reckoned_first(one[found[0][0]], other[found[0][1]])
            same(self, first_conflict(one, other), wanted)
            if wanted is not None:
                same(self, shows_conflict(one, other, *wanted), True)
                kinds.add((wanted[0], len(wanted[1][0])))
        self.assertGreater(len(kinds), 5)

    def test_all_small_orders_and_all_pairs(self):
        told = {True: 0, False: 0}
        for one, other in two_lists(193, 25, 3):
            for i, j in product(range(len(one)), range(len(other))):
                for order in SMALL_ORDERS:
                    wanted = reckoned_shows(one[i], other[j], order)
                    same(self, shows_conflict(one, other, (i, j), order), wanted)
                    told[wanted] += 1
                    if wanted:
                        self.assertIn((i, j), conflicts(one, other))
        self.assertGreater(told[True], 50)
        self.assertGreater(told[False], 500)

    def test_each_pair_of_two_rules(self):
        rules = [rule for letter in ("a", "b", "c") for rule in rules_for(("a", "b", "c"), letter)]
        orders = list(orders_of(("a", "b", "c")))[::7]
        for at, (one, other) in enumerate(product(rules, repeat=2)):
            order = orders[at % len(orders)]
            same(self, shows_conflict((one,), (other,), (0, 0), order), reckoned_shows(one, other, order))

    def test_orders_that_are_no_evidence(self):
        # Without an anchor, without room, and with equal results.
        same(self, shows_conflict(ONE, THIRD, (0, 1), ORDER), True)
        same(self, shows_conflict(ONE, THIRD, (0, 1), (("b", "c"), (1,))), False)
        same(self, shows_conflict(ONE, THIRD, (0, 1), ((), ())), False)
        same(self, shows_conflict((("after", "a", 1, "x"),), (("after", "a", 1, "y"),), (0, 0),
                                  (TWELVE, (1,) * 11)), False)
        same(self, shows_conflict((("after", "a", 1, "x"),), (("after", "a", 1, "y"),), (0, 0),
                                  (TWELVE[:11], (1,) * 10)), False)
        same(self, shows_conflict((("after", "a", 1, "x"),), (("after", "a", 1, "y"),), (0, 0),
                                  (TWELVE[:10], (1,) * 9)), True)

    def test_another_pair_with_the_same_order(self):
        one, other = ONE + ONE, THIRD + THIRD
        for i, j in product(range(2), range(4)):
            same(self, shows_conflict(one, other, (i, j), ORDER), j in (1, 3))


class Sentences(unittest.TestCase):
    def test_what_lists_without_a_conflict_move(self):
        many = 0
        for one, other in two_lists(194, 400):
            if merged(one, other) is None:
                continue
            many += bool(one) and bool(other)
            for own, rule in product(one, other):
                if own[3] == rule[3]:
                    same(self, own, rule)
                self.assertNotEqual(own[1], rule[3])
                self.assertNotEqual(rule[1], own[3])
        self.assertGreater(many, 40)


class WrongArguments(unittest.TestCase):
    one = ("one", ONE, WRONG_RULE_LISTS)
    other = ("other", THIRD, WRONG_RULE_LISTS)
    marks = ("marks", (1, 0, 1), (
        None, True, 0, "", "101", (), [], [1, 0, 1], (1, 0), (1, 1), (1, 0, 1, 1), (1, 0, 1, 0), (0, 0, 1), (1, 1, 1),
        (0, 0, 0), (True, 0, 1), (1, False, 1), (True, False, True), (1, 0, 2), (1, 0, -1), (1, 0, None),
        (1, 0, "1"), (1, 0, (1,)), (1, 0, [1]), (1.0, 0, 1), ((1, 0, 1),), {1: 0}, (1, 0, 1, 2), (-1, 1, 0, 1),
        (1, 0, 1, None), (1, 0, 2, 1)))
    pair = ("pair", (0, 1), (
        None, True, 0, "", "01", (), [], [0, 1], (0,), (0, 1, 0), (1, 0), (1, 1), (0, 2), (-1, 1), (0, -1), (False, 1),
        (0, True), (0, None), (None, 1), ("0", 1), (0, "1"), (0.0, 1), (0, 1.0), ((0,), 1), (0, [1]), {0: 1, 1: 0}))
    order = ("order", ORDER, WRONG_ORDERS)

    def test_each_function(self):
        for function in (conflicts, merged, count_interleavings, unaffected, first_conflict):
            assert_bad_values(self, function, [self.one, self.other])
        assert_bad_values(self, interleaved, [self.one, self.other, self.marks])
        assert_bad_values(self, shows_conflict, [self.one, self.other, self.pair, self.order])

    def test_every_value(self):
        for value in OTHER_VALUES:
            assert_bad_value(self, "marks", interleaved, (ONE, THIRD, value))
            assert_bad_value(self, "pair", shows_conflict, (ONE, THIRD, value, ORDER))

    def test_lists(self):
        for value in OTHER_VALUES:
            if value != [()]:
                assert_bad_value(self, "lists", merged_all, (value,))
        for value in WRONG_RULE_LISTS:
            for lists in ([value], [value, ONE, OTHER], [ONE, value, OTHER], [ONE, OTHER, value]):
                assert_bad_value(self, "lists", merged_all, (lists,))
        for value in ([], [ONE] * 7, [()] * 7, (ONE, OTHER), (ONE,), ((),), ONE, [ONE, None], [list(ONE)],
                      [ONE, APART[:21]], [[ONE]], {0: ONE}, [ONE[0]]):
            assert_bad_value(self, "lists", merged_all, (value,))
        same(self, merged_all([()] * 5 + [ONE]), ONE)

    def test_pairs_of_lists_without_rules(self):
        assert_bad_value(self, "pair", shows_conflict, ((), THIRD, (0, 0), ORDER))
        assert_bad_value(self, "pair", shows_conflict, (ONE, (), (0, 0), ORDER))
        assert_bad_value(self, "pair", shows_conflict, ((), (), (), ORDER))

    def test_wrong_marks_come_before_too_many_rules(self):
        assert_bad_value(self, "marks", interleaved, (APART[:20], APART[20:40], (0,) * 20))
        assert_bad_value(self, "marks", interleaved, (APART[:20], APART[20:40], (0,) * 21 + (1,) * 19))
        assert_bad_value(self, "other", merged, (APART[:20], APART[:21]))


class Printed(unittest.TestCase):
    def test_point_107(self):
        same(self, conflicts(ONE, OTHER), [])
        same(self, conflicts(ONE, THIRD), [(0, 1)])

    def test_interface(self):
        assert_printed(self, '''
>>> from fewestrules.merging import conflicts, count_interleavings, first_conflict, interleaved, merged, shows_conflict, unaffected
>>> one = (("after", "c", 1, "a"),)
>>> other = (("after", "c", 2, "d"), ("before", "d", 3, "e"))
>>> third = (("before", "b", 1, "e"), ("after", "a", 2, "b"))
>>> conflicts(one, other), merged(one, other)
([], (('after', 'c', 1, 'a'), ('after', 'c', 2, 'd'), ('before', 'd', 3, 'e')))
>>> conflicts(one, third), merged(one, third) is None, unaffected(one, third)
([(0, 1)], True, (('before', 'b', 1, 'e'),))
>>> count_interleavings(one, other), interleaved(one, other, (1, 0, 1))
(3, (('after', 'c', 2, 'd'), ('after', 'c', 1, 'a'), ('before', 'd', 3, 'e')))
>>> shows_conflict(one, third, (0, 1), (("a", "b", "c"), (1, 1)))
True
>>> shows_conflict(one, third, (0, 0), (("a", "b", "c"), (1, 1)))
False
''')
