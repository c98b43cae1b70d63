"""Where a rule puts its letter, which rules do the same, and the rule that leads back."""

from fewestrules.orders import STRENGTHS, check_order
from fewestrules.rules import AFTER, BEFORE, check_applicable, check_rule, result_of


def check_placing(order, rule):
    """Raises what the functions of this file raise for wrong arguments."""
    check_order(order, "order")
    check_rule(rule, "rule")
    check_applicable(order, rule, 0)


def rules_leading(order, letter, result):
    """The rules that move the letter and lead from the order to the result, in the told sequence."""
    found = []
    for side in (AFTER, BEFORE):
        for anchor in order[0]:
            for strength in STRENGTHS:
                rule = (side, anchor, strength, letter)
                if anchor != letter and result_of(order, rule) == result:
                    found.append(rule)
    return found


def placed(order, rule):
    """The place of the letter in the result: its index and the strengths ahead and behind."""
    check_placing(order, rule)
    letters, strengths = result_of(order, rule)
    index = letters.index(rule[3])
    ahead, behind = None, None
    if index > 0:
        ahead = strengths[index - 1]
    if index < len(strengths):
        behind = strengths[index]
    return index, ahead, behind


def alike(order, rule):
    """The list of the rules with the same letter that have the same result."""
    check_placing(order, rule)
    return rules_leading(order, rule[3], result_of(order, rule))


def way_back(order, rule):
    """The rules that lead from the result back, none or one; None if the letter is new."""
    check_placing(order, rule)
    if rule[3] not in order[0]:
        return None
    result = result_of(order, rule)
    if result == order:
        return ()
    return tuple(rules_leading(result, rule[3], order)[:1])
