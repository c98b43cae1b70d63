"""Rows of steps from one order to another one, each step one rule, and the judge of rows."""

from fewestrules.common import are_right_levels
from fewestrules.fewest import shortest_rules
from fewestrules.orders import check_order_of_same, check_order_with_letters, is_order_of_same, without
from fewestrules.rules import result_of


def check_ends(first, second):
    """Raises BadValue for the first of the two that cannot be an end of a row of steps."""
    check_order_with_letters(first, "first")
    check_order_of_same(first, second, "second")


def is_step(one, other):
    """True if the orders, which have the same letters, are one rule away from each other."""
    if one == other:
        return False
    return any(without(one, (letter,)) == without(other, (letter,)) for letter in one[0])


def is_row_of_steps(first, second, value):
    """True if the value is a row of steps from the first order to the second one, which are not checked again."""
    if not isinstance(value, tuple) or not all(is_order_of_same(first, order) for order in value):
        return False
    if not value or value[0] != first or value[-1] != second:
        return False
    return all(is_step(one, other) for one, other in zip(value, value[1:]))


def is_one_rule_away(first, second):
    """True if the second order is one rule away from the first one."""
    check_ends(first, second)
    return is_step(first, second)


def way(first, second):
    """The row of steps that the shortest rule list makes, a tuple of orders."""
    check_ends(first, second)
    orders = [first]
    for rule in shortest_rules(first, second):
        orders.append(result_of(orders[-1], rule))
    return tuple(orders)


def is_shortest_row(first, second, row, levels):
    """True if the judge takes the row and the levels."""
    check_ends(first, second)
    if not is_row_of_steps(first, second, row) or not are_right_levels(first, second, levels):
        return False
    return len(row) - 1 + max(levels) == len(first[0])
