"""The sequences of the rules of a list that do the same, and swaps of neighbours that lead to them."""

from itertools import combinations

from fewestrules.errors import BadValue, TooLarge
from fewestrules.exchange import are_exchangeable
from fewestrules.orders import is_integer_within
from fewestrules.rules import check_rules, is_rule

MOST_SWAPS = 400
MOST_COUNTED = 8


def pairs_of(rules):
    """The list of the dependent pairs, in ascending order; the rules are not checked again."""
    return [(i, j) for i, j in combinations(range(len(rules)), 2) if not are_exchangeable(rules[i], rules[j])]


def next_ones(pairs, done, many):
    """The indexes that can stand next in a sequence of so many, behind those that are done."""
    waiting = [j for i, j in pairs if i not in done]
    return [index for index in range(many) if index not in done and index not in waiting]


def are_swaps(value, many):
    """True if the value is swaps for so many rules, allowed or not."""
    if not isinstance(value, tuple) or len(value) > MOST_SWAPS:
        return False
    return all(is_integer_within(place, 0, many - 2) for place in value)


def place_of_match(rules, index, other):
    """The place at which the other list has the rule with this index, with the same occurrence, or None."""
    rule = rules[index]
    places = [place for place, item in enumerate(other) if item == rule]
    occurrence = rules[:index].count(rule)
    if occurrence >= len(places):
        return None
    return places[occurrence]


def is_turned_round(rules, other, i, j):
    """True if the rules i and j of the list stand in the other list, too, but the first one behind the second one."""
    place_of_i = place_of_match(rules, i, other)
    place_of_j = place_of_match(rules, j, other)
    return place_of_i is not None and place_of_j is not None and place_of_i > place_of_j


def evidence_for_unlike(rules, other):
    """The evidence that why_unlike returns, or None; the lists are not checked again."""
    for rule in rules + other:
        if rules.count(rule) != other.count(rule):
            return "count", rule
    for i, j in pairs_of(rules):
        if is_turned_round(rules, other, i, j):
            return "pair", i, j
    return None


def check_two_lists(rules, other):
    """Raises BadValue for the first of the two that is not a rule list."""
    check_rules(rules, "rules")
    check_rules(other, "other")


def dependent_pairs(rules):
    """The list of the dependent pairs of indexes, in ascending order."""
    check_rules(rules, "rules")
    return pairs_of(rules)


def count_sequences(rules):
    """The number of the sequences of the rules."""
    check_rules(rules, "rules")
    if len(rules) > MOST_COUNTED:
        raise TooLarge("rules")
    pairs = pairs_of(rules)
    # How many beginnings of sequences have just these indexes: what goes on behind them is the same for all.
    counts = {(): 1}
    for _ in rules:
        longer = {}
        for done in counts:
            for index in next_ones(pairs, done, len(rules)):
                wider = tuple(sorted(done + (index,)))
                longer[wider] = longer.get(wider, 0) + counts[done]
        counts = longer
    return sum(counts.values())


def swapped(rules, swaps):
    """The rule list after the swaps, or None if they are not allowed."""
    check_rules(rules, "rules")
    if not are_swaps(swaps, len(rules)):
        raise BadValue("swaps")
    current = list(rules)
    for place in swaps:
        one, other = current[place], current[place + 1]
        if not are_exchangeable(one, other):
            return None
        current[place], current[place + 1] = other, one
    return tuple(current)


def swaps_to(rules, other):
    """The told swaps from the first list to the other one, or None if they are not the same but for exchanges."""
    check_two_lists(rules, other)
    if evidence_for_unlike(rules, other) is not None:
        return None
    current = list(rules)
    swaps = []
    for place, rule in enumerate(other):
        found = current.index(rule, place)
        swaps.extend(list(reversed(range(place, found))))
        current.insert(place, current.pop(found))
    return tuple(swaps)


def why_unlike(rules, other):
    """Evidence that the lists are not the same but for exchanges, or None if they are."""
    check_two_lists(rules, other)
    return evidence_for_unlike(rules, other)


def accepts_unlike(rules, other, evidence):
    """True if the value is evidence that the lists are not the same but for exchanges."""
    check_two_lists(rules, other)
    if not isinstance(evidence, tuple) or len(evidence) not in (2, 3):
        return False
    if len(evidence) == 2:
        # Only what surely is a rule is counted: True, which is equal to the strength 1, stands in none.
        rule = evidence[1]
        return evidence[0] == "count" and is_rule(rule) and rules.count(rule) != other.count(rule)
    return evidence[0] == "pair" and is_pair_evidence(rules, other, evidence[1], evidence[2])


def is_pair_evidence(rules, other, i, j):
    """True if the values are a dependent pair of the list that the other list has turned round."""
    last = len(rules) - 1
    if not is_integer_within(i, 0, last) or not is_integer_within(j, i + 1, last):
        return False
    return not are_exchangeable(rules[i], rules[j]) and is_turned_round(rules, other, i, j)
