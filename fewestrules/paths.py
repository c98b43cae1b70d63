"""Paths through orders of the same letters, how long they are, and orders that lie between others."""

from fewestrules.errors import BadValue
from fewestrules.fewest import distance, shortest_rules
from fewestrules.orders import check_order_of_same, check_order_with_letters, is_order, is_order_of_same

MOST_ORDERS = 6


def check_path(value):
    """Raises BadValue if the value is not a path."""
    if not is_path(value):
        raise BadValue("orders")


def length_of(orders):
    """The length of the path, which is not checked again."""
    return sum([distance(one, other) for one, other in zip(orders, orders[1:])])


def is_path(value):
    """True if the value is a path: a tuple of 1 to 6 orders of the same letters, at least one."""
    if not isinstance(value, tuple) or not 1 <= len(value) <= MOST_ORDERS:
        return False
    if not is_order(value[0]) or not value[0][0]:
        return False
    return all(is_order_of_same(value[0], order) for order in value)


def length(orders):
    """The length of the path: the sum of the distances from each order to the next one."""
    check_path(orders)
    return length_of(orders)


def direct(orders):
    """The direct length of the path: the distance from the first order to the last one."""
    check_path(orders)
    return distance(orders[0], orders[-1])


def is_shortest(orders):
    """True if the length of the path is its direct length."""
    return length(orders) == direct(orders)


def farthest(orders):
    """The index of the first one of the orders whose distance from the first order is the greatest."""
    check_path(orders)
    distances = [distance(orders[0], order) for order in orders]
    return distances.index(max(distances))


def joined_rules(orders):
    """The tuple of the joined rules, of any length."""
    check_path(orders)
    rules = ()
    for one, other in zip(orders, orders[1:]):
        rules = rules + shortest_rules(one, other)
    return rules


def kept_along(orders):
    """The tuple of the letters that no joined rule moves, in the sequence of the first order."""
    moved = [rule[3] for rule in joined_rules(orders)]
    return tuple(letter for letter in orders[0][0] if letter not in moved)


def lies_between(middle, first, second):
    """True if the order in the middle lies between the two others."""
    check_order_with_letters(middle, "middle")
    check_order_of_same(middle, first, "first")
    check_order_of_same(middle, second, "second")
    return length_of((first, middle, second)) == distance(first, second)
