"""Rules that can be exchanged, and orders that show that two rules cannot be."""

from itertools import permutations

from fewestrules.orders import STRENGTHS, is_order
from fewestrules.rules import check_rule, result_or_none

WEAKEST = 3
SPARE_LETTERS = ("a", "b", "c")


def check_two_rules(one, other):
    """Raises BadValue for the first of the two that is not a rule."""
    check_rule(one, "one")
    check_rule(other, "other")


def are_exchangeable(one, other):
    """True if the two rules can be exchanged; they are not checked again."""
    if one == other:
        return True
    side, anchor, strength, letter = one
    if letter in (other[1], other[3]) or anchor == other[3]:
        return False
    if side != other[0] or strength != other[2]:
        return True
    # With the weakest strength a letter passes no other one, so only one anchor brings two letters to one place.
    return strength == WEAKEST and anchor != other[1]


def letters_of_rules(one, other):
    """The list of the letters of two rules; there are at least three."""
    letters = []
    for letter in (one[1], one[3], other[1], other[3]):
        if letter not in letters:
            letters.append(letter)
    if len(letters) == 2:
        spare = [letter for letter in SPARE_LETTERS if letter not in letters]
        letters.append(spare[0])
    return letters


def rows_of_strengths(many):
    """All tuples of so many strengths, in ascending order."""
    rows = [()]
    for _ in range(many):
        rows = [row + (strength,) for row in rows for strength in STRENGTHS]
    return rows


def is_shown_by(one, other, order):
    """True if the order shows that the two rules are dependent; the arguments are not checked again."""
    # Each rule comes first once, so both sequences can be applied only to an order that contains both anchors.
    result = result_or_none(order, (one, other))
    turned_round = result_or_none(order, (other, one))
    return result is not None and turned_round is not None and result != turned_round


def can_exchange(one, other):
    """True if the two rules can be exchanged."""
    check_two_rules(one, other)
    return are_exchangeable(one, other)


def first_showing(one, other):
    """The first order that shows that the two rules are dependent, or None if they can be exchanged."""
    check_two_rules(one, other)
    if are_exchangeable(one, other):
        return None
    letters = letters_of_rules(one, other)
    rows = rows_of_strengths(len(letters) - 1)
    for row in permutations(letters):
        for strengths in rows:
            if is_shown_by(one, other, (row, strengths)):
                return row, strengths
    return None


def shows(one, other, order):
    """True if the value is an order that shows that the two rules are dependent."""
    check_two_rules(one, other)
    return is_order(order) and is_shown_by(one, other, order)
