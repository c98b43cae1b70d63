"""Rule lists that are joined, and rule lists that turn another one back."""

from fewestrules.errors import TooLarge
from fewestrules.placing import way_back
from fewestrules.pruning import pruned_list
from fewestrules.rules import MOST_RULES, check_rules, is_rule_list, led, result_of, result_or_none


def joined(first, second):
    """The joined list, a tuple."""
    check_rules(first, "first")
    check_rules(second, "second")
    rules = pruned_list(first + second)
    if len(rules) > MOST_RULES:
        raise TooLarge("rules")
    return rules


def untouched(order, rules):
    """The tuple of the letters of the order that no rule moves."""
    # Only for its errors: the rules have to be applicable.
    led(order, rules)
    moved = [rule[3] for rule in rules]
    return tuple(letter for letter in order[0] if letter not in moved)


def turned_back(order, rules):
    """A rule list that leads from the result back to the order, or None if there is none."""
    # Only for its errors: a rule that cannot be applied is told even behind one that puts in a new letter.
    led(order, rules)
    back = ()
    for rule in rules:
        step = way_back(order, rule)
        if step is None:
            return None
        back = step + back
        order = result_of(order, rule)
    return pruned_list(back)


def accepts_back(order, rules, back):
    """True if the value is a rule list that leads from the result of the rules back to the order."""
    result = led(order, rules)
    return is_rule_list(back) and result_or_none(result, back) == order
