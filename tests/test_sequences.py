"""Points 2, 59 to 64: sequences of rules, swaps, and evidence that two lists are not the same but for exchanges."""

import random
import unittest
from itertools import combinations, permutations, product

from fewestrules.errors import TooLarge
from fewestrules.exchange import can_exchange
from fewestrules.rules import is_rule_list, result_or_none
from fewestrules.sequences import (accepts_unlike, count_sequences, dependent_pairs, swapped, swaps_to,
                                   why_unlike)
from tests.helpers import (GOOD_RULE, OTHER_VALUES, WRONG_RULE_LISTS, WRONG_RULES, assert_bad_value,
                           assert_bad_values, assert_printed, rules_for, same, some_list, some_order)

LETTERS = ("a", "b", "c", "d", "e", "f")
# Rules of which no two neighbours can be exchanged, and rules of which each two can be.
CHAIN = tuple(("after", f"a{at}", 3, f"a{at + 1}") for at in range(20))
APART = tuple(("after", f"a{at}", 3, f"b{at}") for at in range(20))


def some_lists(seed, many, most=20):
    chance = random.Random(seed)
    for turn in range(many):
        anchors = LETTERS[:1 + turn % 3]
        letters = LETTERS[2 + turn % 2:] if turn % 4 else LETTERS
        yield some_list(chance, turn % (most + 1), anchors, letters)


def reckoned_pairs(rules):
    return [(i, j) for i, j in combinations(range(len(rules)), 2) if not can_exchange(rules[i], rules[j])]


def reckoned_sequences(rules):
    """All sequences of point 59, taken from all tuples of indexes."""
    pairs = reckoned_pairs(rules)
    return [row for row in permutations(range(len(rules)))
            if all(row.index(i) < row.index(j) for i, j in pairs)]


def exchanged_lists(rules):
    """All lists to which exchanging neighbours leads, found step by step."""
    found = {rules}
    ahead = [rules]
    while ahead:
        current = ahead.pop()
        for at in range(len(current) - 1):
            if can_exchange(current[at], current[at + 1]):
                after = current[:at] + (current[at + 1], current[at]) + current[at + 2:]
                if after not in found:
                    found.add(after)
                    ahead.append(after)
    return found


def shuffled(chance, rules, many=60):
    """The list after so many tries to exchange neighbours."""
    current = list(rules)
    for _ in range(many if len(rules) > 1 else 0):
        at = chance.randrange(len(rules) - 1)
        if can_exchange(current[at], current[at + 1]):
            current[at], current[at + 1] = current[at + 1], current[at]
    return tuple(current)


def reckoned_swaps(rules, other):
    """The told swaps of point 63, for lists that are the same but for exchanges."""
    current, swaps = list(rules), []
    for p in range(len(other)):
        q = min(at for at in range(p, len(current)) if current[at] == other[p])
        for at in range(q - 1, p - 1, -1):
            swaps.append(at)
            current[at], current[at + 1] = current[at + 1], current[at]
    return tuple(swaps)


def numbered(rules):
    """Each item of the list with its occurrence, point 62."""
    return [(rule, sum(other == rule for other in rules[:at])) for at, rule in enumerate(rules)]


def reckoned_evidence(rules, other):
    """All evidence of point 62, in the sequence in which why_unlike chooses."""
    found = []
    for rule in rules + other:
        if rules.count(rule) != other.count(rule):
            found.append(("count", rule))
    items, others = numbered(rules), numbered(other)
    for i, j in reckoned_pairs(rules):
        if items[i] in others and items[j] in others and others.index(items[i]) > others.index(items[j]):
            found.append(("pair", i, j))
    return found


def two_lists(seed, many, most=8):
    """Pairs of lists: of the same rules in another sequence, with a rule more, less or changed, and any two."""
    chance = random.Random(seed)
    for turn, rules in enumerate(some_lists(seed, many, most)):
        kind = turn % 5
        other = list(shuffled(chance, rules))
        if kind == 1 or turn % 3 == 0:
            chance.shuffle(other)
        if kind == 2 and other:
            other[chance.randrange(len(other))] = GOOD_RULE
        if kind == 3:
            other = other[:-1]
        if kind == 4:
            other = other + [chance.choice(rules or (GOOD_RULE,))]
        yield rules, tuple(other)


class Pairs(unittest.TestCase):
    def test_against_the_rules(self):
        for rules in some_lists(90, 126):
            found = dependent_pairs(rules)
            same(self, found, reckoned_pairs(rules))
            self.assertEqual(found, sorted(found))

    def test_none_and_all(self):
        for many in range(21):
            same(self, dependent_pairs(APART[:many]), [])
            same(self, dependent_pairs(CHAIN[:many]), [(at, at + 1) for at in range(many - 1)])
            same(self, dependent_pairs((GOOD_RULE,) * many), [])

    def test_a_changed_list_changes_no_later_answer(self):
        wanted = [(0, 1), (1, 2)]
        found = dependent_pairs(CHAIN[:3])
        found.append(None)
        found.reverse()
        same(self, dependent_pairs(CHAIN[:3]), wanted)
        self.assertIsNot(dependent_pairs(CHAIN[:3]), dependent_pairs(CHAIN[:3]))


class Counted(unittest.TestCase):
    def test_against_all_tuples_of_indexes(self):
        for rules in some_lists(91, 84, 6):
            same(self, count_sequences(rules), len(reckoned_sequences(rules)))
        for rules in list(some_lists(92, 16, 8))[7::9]:
            same(self, count_sequences(rules), len(reckoned_sequences(rules)))

    def test_none_and_all(self):
        factorials = (1, 1, 2, 6, 24, 120, 720, 5040, 40320)
        for many in range(9):
            same(self, count_sequences(APART[:many]), factorials[many])
            same(self, count_sequences((GOOD_RULE,) * many), factorials[many])
        same(self, count_sequences((("after", "a", 1, "x"),) + APART[:7]), 40320)
        moving = tuple(("after", f"a{at}", 1, "x") for at in range(8))
        for many in range(9):
            same(self, count_sequences(moving[:many]), 1)

    def test_too_many(self):
        for rules in (APART, CHAIN, (GOOD_RULE,) * 20):
            for many in range(21):
                if many <= 8:
                    same(self, isinstance(count_sequences(rules[:many]), int), True)
                    continue
                with self.assertRaises(TooLarge) as caught:
                    count_sequences(rules[:many])
                same(self, caught.exception.what, "rules")

    def test_wrong_rules_come_before_too_many(self):
        assert_bad_value(self, "rules", count_sequences, ((GOOD_RULE,) * 9 + (None,),))
        assert_bad_value(self, "rules", count_sequences, ((GOOD_RULE,) * 21,))


class Swaps(unittest.TestCase):
    def test_against_exchanging(self):
        chance = random.Random(93)
        kinds = []
        for rules in some_lists(93, 200):
            if len(rules) > 1:
                swaps = tuple(chance.randrange(len(rules) - 1) for _ in range(chance.randrange(6)))
                current, allowed = list(rules), True
                for at in swaps:
                    allowed = allowed and can_exchange(current[at], current[at + 1])
                    current[at], current[at + 1] = current[at + 1], current[at]
                same(self, swapped(rules, swaps), tuple(current) if allowed else None)
                kinds.append((allowed, len(swaps) > 1))
        self.assertEqual(len(set(kinds)), 4)

    def test_the_list_as_it_then_is(self):
        rules = (("after", "a", 1, "x"), ("after", "b", 2, "y"), ("after", "b", 2, "z"))
        same(self, swapped(rules, (0,)), (rules[1], rules[0], rules[2]))
        same(self, swapped(rules, (0, 1)), (rules[1], rules[2], rules[0]))
        same(self, swapped(rules, (0, 1, 0)), None)
        same(self, swapped(rules, (1,)), None)
        same(self, swapped(rules, (0, 0)), rules)

    def test_equal_rules(self):
        same(self, swapped((GOOD_RULE, GOOD_RULE), (0, 0, 0)), (GOOD_RULE, GOOD_RULE))

    def test_none_and_many(self):
        for many in range(3):
            same(self, swapped(APART[:many], ()), APART[:many])
        for many in (0, 1, 399, 400):
            wanted = APART[:2] if many % 2 == 0 else APART[1::-1]
            same(self, swapped(APART[:2], (0,) * many), wanted)
        assert_bad_value(self, "swaps", swapped, (APART[:2], (0,) * 401))

    def test_swaps_of_other_forms(self):
        for value in OTHER_VALUES + ([0], (0, True), (False,), (0, "0"), (0, 1.0), (-1,), (0, -1)):
            assert_bad_value(self, "swaps", swapped, (APART[:3], value))
        for many in range(21):
            for place in (-1, many - 1, many, many + 1):
                assert_bad_value(self, "swaps", swapped, (APART[:many], (place,)))
            for place in range(many - 1):
                self.assertIsNotNone(swapped(APART[:many], (place,)))

    def test_wrong_swaps_come_before_swaps_that_are_not_allowed(self):
        assert_bad_value(self, "swaps", swapped, (CHAIN[:3], (0, 2)))
        same(self, swapped(CHAIN[:3], (0, 1)), None)


class SameButForExchanges(unittest.TestCase):
    def test_exchanging_leads_to_the_sequences(self):
        for rules in some_lists(94, 42, 6):
            lists = {tuple(rules[at] for at in row) for row in reckoned_sequences(rules)}
            self.assertEqual(exchanged_lists(rules), lists)
            for other in set(permutations(rules)):
                self.assertEqual(swaps_to(rules, other) is not None, other in lists)
                self.assertEqual(why_unlike(rules, other) is None, other in lists)

    def test_the_told_swaps(self):
        chance = random.Random(95)
        for rules in some_lists(95, 200):
            other = shuffled(chance, rules, 200)
            swaps = swaps_to(rules, other)
            same(self, swaps, reckoned_swaps(rules, other))
            same(self, swapped(rules, swaps), other)
            same(self, why_unlike(rules, other), None)
            self.assertLessEqual(len(swaps), 190)

    def test_all_rules_in_reverse(self):
        swaps = swaps_to(APART, APART[::-1])
        same(self, swaps, tuple(at for p in range(20) for at in range(18, p - 1, -1)))
        self.assertEqual(len(swaps), 190)
        same(self, swapped(APART, swaps), APART[::-1])

    def test_equal_rules_are_taken_from_the_left(self):
        x, y = APART[:2]
        same(self, swaps_to((y, x, x), (x, y, x)), (0,))
        same(self, swaps_to((x, x, y), (y, x, x)), (1, 0))
        same(self, swaps_to((x, y, x), (x, x, y)), (1,))
        same(self, swaps_to((x, x), (x, x)), ())
        same(self, swaps_to((x, y, x, y), (y, y, x, x)), (0, 2, 1))

    def test_no_rules(self):
        same(self, swaps_to((), ()), ())
        same(self, why_unlike((), ()), None)
        same(self, swaps_to((), (GOOD_RULE,)), None)
        same(self, swaps_to((GOOD_RULE,), ()), None)

    def test_the_same_effect(self):
        chance = random.Random(96)
        many = 0
        for rules in some_lists(96, 100, 10):
            other = shuffled(chance, rules)
            for _ in range(5):
                order = some_order(chance, LETTERS + ("x", "y", "z"), chance.randrange(1, 9))
                found, otherwise = result_or_none(order, rules), result_or_none(order, other)
                if found is not None and otherwise is not None:
                    many += rules != other
                    same(self, otherwise, found)
        self.assertGreater(many, 50)


class Evidence(unittest.TestCase):
    def test_what_is_told(self):
        kinds = set()
        for rules, other in two_lists(97, 300):
            found = reckoned_evidence(rules, other)
            same(self, why_unlike(rules, other), found[0] if found else None)
            self.assertEqual(swaps_to(rules, other) is None, bool(found))
            if found:
                same(self, accepts_unlike(rules, other, found[0]), True)
            kinds.add(found[0][0] if found else None)
        self.assertEqual(kinds, {"count", "pair", None})

    def test_either_the_same_or_evidence(self):
        rules = [rule for rule in rules_for(("a", "b"), "c")][::3] + [("after", "c", 1, "d"), ("after", "a", 1, "d")]
        lists = [row for many in range(4) for row in product(rules[:5], repeat=many)]
        for at, one in enumerate(lists):
            reached = exchanged_lists(one)
            for other in lists[at % 5::5]:
                self.assertEqual(why_unlike(one, other) is None, other in reached)

    def test_all_counts_and_pairs(self):
        accepted = set()
        for rules, other in two_lists(98, 150):
            found = reckoned_evidence(rules, other)
            for rule in rules + other + (GOOD_RULE, ("before", "zz", 1, "z")):
                same(self, accepts_unlike(rules, other, ("count", rule)), ("count", rule) in found)
            for i in range(-1, len(rules) + 1):
                for j in range(-1, len(rules) + 1):
                    same(self, accepts_unlike(rules, other, ("pair", i, j)), ("pair", i, j) in found)
            accepted |= {(one[0], len(other) == len(rules)) for one in found}
        self.assertEqual(len(accepted), 4)

    def test_the_first_rule_of_the_first_list(self):
        x, y, z = APART[:3]
        same(self, why_unlike((x, y, z), (x,)), ("count", y))
        same(self, why_unlike((x,), (z, x, y)), ("count", z))
        same(self, why_unlike((x, z), (z, y, x, z)), ("count", z))
        same(self, why_unlike((x, x, y), (y, x)), ("count", x))
        same(self, why_unlike((), (y, x)), ("count", y))
        same(self, accepts_unlike((x,), (x, x), ("count", x)), True)
        same(self, accepts_unlike((x, x), (x, x), ("count", x)), False)

    def test_occurrences(self):
        x, y = ("after", "a", 1, "x"), ("after", "a", 1, "y")
        same(self, why_unlike((x, y, x), (y, x, x)), ("pair", 0, 1))
        same(self, why_unlike((x, y, x), (x, x, y)), ("pair", 1, 2))
        same(self, accepts_unlike((x, y, x), (x, x, y), ("pair", 0, 1)), False)
        same(self, accepts_unlike((x, y, x), (y, x, x), ("pair", 1, 2)), False)
        same(self, accepts_unlike((x, x, y), (y, x), ("pair", 0, 2)), True)
        same(self, accepts_unlike((x, x, y), (y, x), ("pair", 1, 2)), False)
        same(self, accepts_unlike((x, y), (y, y, x, x), ("pair", 0, 1)), True)
        same(self, accepts_unlike((x, y), (y, y), ("pair", 0, 1)), False)

    def test_pairs_of_other_forms(self):
        x, y = ("after", "a", 1, "x"), ("after", "a", 1, "y")
        rules, other = (x, y), (y, x)
        same(self, accepts_unlike(rules, other, ("pair", 0, 1)), True)
        for value in (("pair", False, 1), ("pair", 0, True), ("pair", 1, 0), ("pair", 0, 0), ("pair", 0, 2),
                      ("pair", -2, -1), ("pair", -2, 1), ("pair", 0, -1), ("pair", 0.0, 1), ("pair", "0", "1"),
                      ("pair", None, 1), ("pair", 0), ("pair", 0, 1, 2), ("pair", (0, 1)), ["pair", 0, 1],
                      ("Pair", 0, 1), ("count", 0, 1), (0, 1), ("pair", (0,), (1,)), ("pair", [0], [1]),
                      (None, 0, 1), (("pair",), 0, 1), (["pair"], 0, 1), ("", 0, 1)):
            same(self, accepts_unlike(rules, other, value), False)

    def test_counts_of_other_forms(self):
        rules, other = (GOOD_RULE, GOOD_RULE), (GOOD_RULE,)
        same(self, accepts_unlike(rules, other, ("count", GOOD_RULE)), True)
        for value in (("count", list(GOOD_RULE)), ("count", ("after", "a", True, "x")), ("count", (GOOD_RULE,)),
                      ("count", ("after", "a", 1.0, "x")), ("count", GOOD_RULE, GOOD_RULE), ("count",) + GOOD_RULE,
                      ["count", GOOD_RULE], ("Count", GOOD_RULE), ("pair", GOOD_RULE), ("count", GOOD_RULE, 0),
                      ("count",), (True, GOOD_RULE), (None, GOOD_RULE), ([], GOOD_RULE), GOOD_RULE):
            same(self, accepts_unlike(rules, other, value), False)

    def test_every_value(self):
        lists = ((), (GOOD_RULE,), CHAIN[:2], CHAIN[1::-1])
        for value in OTHER_VALUES + WRONG_RULES:
            for rules, other in product(lists, repeat=2):
                same(self, accepts_unlike(rules, other, value), False)
                same(self, accepts_unlike(rules, other, ("count", value)), False)
                if repr(value) != "0":
                    same(self, accepts_unlike(rules, other, ("pair", value, 1)), False)


class WrongArguments(unittest.TestCase):
    def test_each_function(self):
        rules = ("rules", (GOOD_RULE,), WRONG_RULE_LISTS)
        other = ("other", CHAIN[:2], WRONG_RULE_LISTS)
        assert_bad_values(self, dependent_pairs, [rules])
        assert_bad_values(self, count_sequences, [rules])
        assert_bad_values(self, swapped, [rules, ("swaps", (), ((0,), None, [], (True,), "", (-1,)))])
        assert_bad_values(self, swaps_to, [rules, other])
        assert_bad_values(self, why_unlike, [rules, other])
        for evidence in (None, ("count", GOOD_RULE), ("pair", 0, 1), True):
            assert_bad_values(self, lambda one, two: accepts_unlike(one, two, evidence), [rules, other])

    def test_the_lists_of_these_tests_are_rule_lists(self):
        for rules in (CHAIN, APART) + tuple(some_lists(99, 30)):
            self.assertTrue(is_rule_list(rules))


class Printed(unittest.TestCase):
    def test_interface(self):
        assert_printed(self, '''
>>> from fewestrules.exchange import can_exchange, first_showing, shows
>>> from fewestrules.sequences import accepts_unlike, count_sequences, dependent_pairs, swapped, swaps_to, why_unlike
>>> one, other = ("after", "a", 1, "x"), ("after", "a", 1, "y")
>>> can_exchange(one, other), can_exchange(one, ("after", "a", 2, "y"))
(False, True)
>>> first_showing(one, other)
(('a', 'x', 'y'), (1, 1))
>>> shows(one, other, (("a",), ()))
True
>>> rules = (one, ("after", "a", 2, "y"), ("before", "x", 3, "z"))
>>> dependent_pairs(rules), count_sequences(rules)
([(0, 2)], 3)
>>> swaps_to(rules, (rules[1], rules[0], rules[2]))
(0,)
>>> swapped(rules, (0, 1, 0)) is None, swapped(rules, (1,)) == (rules[0], rules[2], rules[1])
(True, True)
>>> why_unlike(rules, (rules[2], rules[1], rules[0]))
('pair', 0, 2)
>>> accepts_unlike(rules, (rules[0], rules[1]), ("count", rules[2]))
True
''')
