"""Rule lists that were made apart from each other: their conflicts, and how they are merged."""

from itertools import combinations
from math import comb

from fewestrules.errors import BadValue, TooLarge
from fewestrules.exchange import are_exchangeable, first_showing, is_shown_by
from fewestrules.orders import check_order, is_integer_within
from fewestrules.rules import MOST_RULES, check_rules, is_rule_list

MOST_LISTS = 6


def check_one_and_other(one, other):
    """Raises BadValue for the first of the two that is not a rule list."""
    check_rules(one, "one")
    check_rules(other, "other")


def are_lists(value):
    """True if the value is a list of 1 to 6 rule lists."""
    if not isinstance(value, list) or not 1 <= len(value) <= MOST_LISTS:
        return False
    return all(is_rule_list(rules) for rules in value)


def are_marks(one, other, value):
    """True if the value is marks for the two rule lists."""
    if not isinstance(value, tuple) or not all(is_integer_within(mark, 0, 1) for mark in value):
        return False
    return value.count(0) == len(one) and value.count(1) == len(other)


def is_pair_of_indexes(one, other, value):
    """True if the value is a pair of an index of a rule of one and an index of a rule of other."""
    if not isinstance(value, tuple) or len(value) != 2:
        return False
    return is_integer_within(value[0], 0, len(one) - 1) and is_integer_within(value[1], 0, len(other) - 1)


def conflicts_of(one, other):
    """The list of the conflicts, in ascending order; the rule lists are not checked again."""
    found = []
    for i, rule in enumerate(one):
        found.extend([(i, j) for j, against in enumerate(other) if not are_exchangeable(rule, against)])
    return found


def within_bound(rules):
    """The rules; raises TooLarge if there are too many for a rule list."""
    if len(rules) > MOST_RULES:
        raise TooLarge("rules")
    return rules


def conflicts(one, other):
    """The list of the conflicts, pairs of indexes in ascending order."""
    check_one_and_other(one, other)
    return conflicts_of(one, other)


def merged(one, other):
    """The merged list, or None if there is a conflict."""
    check_one_and_other(one, other)
    if conflicts_of(one, other):
        return None
    return within_bound(one + other)


def merged_all(lists):
    """The merged list of several rule lists, or None if two of them have a conflict."""
    if not are_lists(lists):
        raise BadValue("lists")
    for one, other in combinations(lists, 2):
        if conflicts_of(one, other):
            return None
    return within_bound(tuple(rule for rules in lists for rule in rules))


def count_interleavings(one, other):
    """The number of the interleavings told by marks."""
    check_one_and_other(one, other)
    return comb(len(one) + len(other), len(one))


def interleaved(one, other, marks):
    """The interleaving that the marks tell."""
    check_one_and_other(one, other)
    if not are_marks(one, other, marks):
        raise BadValue("marks")
    lists = (one, other)
    taken = [0, 0]
    rules = []
    for mark in marks:
        rules.append(lists[mark][taken[mark]])
        taken[mark] += 1
    return within_bound(tuple(rules))


def unaffected(one, other):
    """The tuple of the rules of other that are in no conflict, in their sequence."""
    check_one_and_other(one, other)
    affected = [pair[1] for pair in conflicts_of(one, other)]
    return tuple(rule for j, rule in enumerate(other) if j not in affected)


def first_conflict(one, other):
    """The first conflict and the first order that shows it, or None if there is no conflict."""
    check_one_and_other(one, other)
    found = conflicts_of(one, other)
    if not found:
        return None
    i, j = found[0]
    return (i, j), first_showing(one[i], other[j])


def shows_conflict(one, other, pair, order):
    """True if the order is evidence for a conflict at this pair of indexes."""
    check_one_and_other(one, other)
    if not is_pair_of_indexes(one, other, pair):
        raise BadValue("pair")
    check_order(order, "order")
    return is_shown_by(one[pair[0]], other[pair[1]], order)
