"""The fewest rules that lead from one order to another one, and the judge of answers."""

from fewestrules.common import are_right_levels, check_both, levels_for, longest_common
from fewestrules.keeping import keeping_rules, reaches
from fewestrules.rules import check_rules, is_rule_list, result_or_none


def can_reach(first, second):
    """True if some rule list of some length leads from the first order to the second one."""
    check_both(first, second)
    return reaches(first, second)


def moved_letters(first, second):
    """The tuple of the letters that the shortest rule list moves, or None if the second order cannot be reached."""
    check_both(first, second)
    if not reaches(first, second):
        return None
    kept = longest_common(first, second)
    return tuple(letter for letter in second[0] if letter not in kept)


def distance(first, second):
    """The number of the fewest rules, or None if the second order cannot be reached."""
    moved = moved_letters(first, second)
    if moved is None:
        return None
    return len(moved)


def shortest_rules(first, second):
    """The shortest rule list, or None if the second order cannot be reached."""
    check_both(first, second)
    if not reaches(first, second):
        return None
    kept = longest_common(first, second)
    if not kept:
        # Of orders that can be reached, only those without letters keep nothing.
        return ()
    return keeping_rules(first, second, kept)


def told(first, second, rules):
    """The word that tells whether the rules lead to the second order, and whether they are the fewest."""
    check_both(first, second)
    check_rules(rules, "rules")
    if result_or_none(first, rules) != second:
        return "fails"
    if len(rules) == distance(first, second):
        return "fewest"
    return "leads"


def answer_for(first, second):
    """An accepted answer, or None if the second order cannot be reached."""
    rules = shortest_rules(first, second)
    if rules is None:
        return None
    return rules, levels_for(first, second)


def is_fewest(first, second, rules, levels):
    """True if the judge accepts the rules and the levels as an answer for the two orders."""
    check_both(first, second)
    if not is_rule_list(rules) or result_or_none(first, rules) != second:
        return False
    if not are_right_levels(first, second, levels):
        return False
    return len(rules) + max(levels, default=0) == len(second[0])
