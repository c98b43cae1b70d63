"""Orders and rule lists that are written as texts."""

from fewestrules.orders import check_order
from fewestrules.rules import BEFORE, check_rules


def relation(strength, letter):
    """The text of a relation: the sign of the strength, and the letter."""
    sign = "<" * strength
    return f"{sign} {letter}"


def chain_up_to_anchor(side, anchor, strength):
    """The text of the tokens with which a chain begins whose first rule has this side, anchor and strength."""
    if side == BEFORE:
        return f"& [before {strength}] {anchor}"
    return f"& {anchor}"


def order_text(order):
    """The text of the order."""
    check_order(order, "order")
    letters, strengths = order
    parts = list(letters[:1])
    parts.extend([relation(strength, letter) for strength, letter in zip(strengths, letters[1:])])
    return " ".join(parts)


def rules_text(rules):
    """The text of the rule list."""
    check_rules(rules, "rules")
    parts = []
    # The letter of the rule before; the first rule has none before it, and no anchor is empty.
    last = ""
    for side, anchor, strength, letter in rules:
        if side == BEFORE or anchor != last:
            parts.append(chain_up_to_anchor(side, anchor, strength))
        parts.append(relation(strength, letter))
        last = letter
    return " ".join(parts)
