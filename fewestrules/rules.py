"""Rules, rule lists, and what they make of an order."""

from fewestrules.errors import BadValue, NotApplicable
from fewestrules.orders import MOST_LETTERS, check_order, is_letter, is_strength

AFTER = "after"
BEFORE = "before"
MOST_RULES = 20


def is_rule(value):
    """True if the value is a rule."""
    if not isinstance(value, tuple) or len(value) != 4:
        return False
    side, anchor, strength, letter = value
    if not isinstance(side, str) or side not in (AFTER, BEFORE):
        return False
    if not is_letter(anchor) or not is_letter(letter) or anchor == letter:
        return False
    return is_strength(strength)


def is_rule_list(value):
    """True if the value is a rule list."""
    if not isinstance(value, tuple) or len(value) > MOST_RULES:
        return False
    return all(is_rule(rule) for rule in value)


def check_rule(value, name):
    """Raises BadValue with the name if the value is not a rule."""
    if not is_rule(value):
        raise BadValue(name)


def check_rules(value, name):
    """Raises BadValue with the name if the value is not a rule list."""
    if not is_rule_list(value):
        raise BadValue(name)


def why_not(order, rule):
    """The word that tells why the rule cannot be applied to the order, or None if it can be."""
    letters = order[0]
    if rule[1] not in letters:
        return "anchor"
    if len(letters) == MOST_LETTERS and rule[3] not in letters:
        return "full"
    return None


def check_applicable(order, rule, index):
    """Raises NotApplicable with the index if the rule cannot be applied to the order."""
    why = why_not(order, rule)
    if why is not None:
        raise NotApplicable(index, why)


def taken_out(letters, strengths, letter):
    """The lists of letters and strengths after the letter goes, which is among the letters."""
    place = letters.index(letter)
    left = letters[:place] + letters[place + 1:]
    if place == 0:
        return left, strengths[1:]
    if place == len(left):
        return left, strengths[:-1]
    stronger = min(strengths[place - 1], strengths[place])
    return left, strengths[:place - 1] + [stronger] + strengths[place + 1:]


def place_after(letters, strengths, anchor, strength):
    """The place to which a letter goes that is put after the anchor."""
    place = letters.index(anchor) + 1
    while place < len(letters) and strengths[place - 1] > strength:
        place += 1
    return place


def place_before(letters, strengths, anchor, strength):
    """The place to which a letter goes that is put before the anchor."""
    place = letters.index(anchor)
    while place > 0 and strengths[place - 1] > strength:
        place -= 1
    return place


def result_of(order, rule):
    """The result of a rule that can be applied; the arguments are not checked again."""
    side, anchor, strength, letter = rule
    letters, strengths = list(order[0]), list(order[1])
    if letter in letters:
        letters, strengths = taken_out(letters, strengths, letter)
    if side == AFTER:
        place = place_after(letters, strengths, anchor, strength)
        # What stood between the neighbours moves behind the letter by itself.
        strengths.insert(place - 1, strength)
    else:
        place = place_before(letters, strengths, anchor, strength)
        # What stood between the neighbours stays ahead of the letter by itself.
        strengths.insert(place, strength)
    letters.insert(place, letter)
    return tuple(letters), tuple(strengths)


def result_of_all(order, rules):
    """The order to which the rules lead; their forms are not checked again, but whether they can be applied is."""
    for index, rule in enumerate(rules):
        check_applicable(order, rule, index)
        order = result_of(order, rule)
    return order


def result_or_none(order, rules):
    """The order to which the rules lead, or None if one of them cannot be applied when its turn comes."""
    try:
        return result_of_all(order, rules)
    except NotApplicable:
        return None


def can_apply(order, rule):
    """True if the rule can be applied to the order."""
    check_order(order, "order")
    check_rule(rule, "rule")
    return why_not(order, rule) is None


def applied(order, rule):
    """The result of the rule."""
    check_order(order, "order")
    check_rule(rule, "rule")
    check_applicable(order, rule, 0)
    return result_of(order, rule)


def led(order, rules):
    """The order to which the rule list leads."""
    check_order(order, "order")
    check_rules(rules, "rules")
    return result_of_all(order, rules)
