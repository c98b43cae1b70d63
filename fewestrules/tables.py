"""Tables of orders, and schemes: differences that are told without a sequence."""

from itertools import combinations
from math import factorial

from fewestrules.errors import BadValue
from fewestrules.orders import MOST_LETTERS, SAME, check_letters, check_order, difference_of
from fewestrules.orders import is_integer_within, is_strength

LEVELS = (1, 2, 3)


def is_row(value, place, many):
    """True if the value can be the row at this place of a scheme of so many rows."""
    if not isinstance(value, tuple) or len(value) != many:
        return False
    for at, number in enumerate(value):
        if at == place and not is_integer_within(number, SAME, SAME):
            return False
        if at != place and not is_strength(number):
            return False
    return True


def is_scheme(value):
    """True if the value is a scheme."""
    if not isinstance(value, tuple) or len(value) > MOST_LETTERS:
        return False
    many = len(value)
    if not all(is_row(row, place, many) for place, row in enumerate(value)):
        return False
    return all(value[i][j] == value[j][i] for i in range(many) for j in range(i))


def is_table(value):
    """True if the value is the table of some order."""
    if not is_scheme(value):
        return False
    for i, j, k in combinations(range(len(value)), 3):
        if value[i][k] != min(value[i][j], value[j][k]):
            return False
    return True


def check_scheme(value, name):
    """Raises BadValue with the name if the value is not a scheme."""
    if not is_scheme(value):
        raise BadValue(name)


def check_scheme_for(letters, value, name):
    """Raises BadValue with the name if the value is not a scheme for so many letters."""
    if not is_scheme(value) or len(value) != len(letters):
        raise BadValue(name)


def clash_of(scheme):
    """The clash of a scheme, or None; the argument is not checked again."""
    for i, j, k in combinations(range(len(scheme)), 3):
        numbers = [scheme[i][j], scheme[i][k], scheme[j][k]]
        if numbers.count(min(numbers)) == 1:
            return (i, j, k)
    return None


def group_in(scheme, index, level):
    """The group of the index at the level; level 0 gives all indexes.

    Only a scheme without a clash has groups that do not overlap.
    """
    return tuple(other for other, number in enumerate(scheme[index]) if number > level)


def parts_of(scheme, members, level):
    """The groups of the level in these members, which are a group of the level before."""
    parts = []
    for index in members:
        group = group_in(scheme, index, level)
        if group not in parts:
            parts.append(group)
    return parts


def table_of(order):
    """The table of the order, a tuple of tuples."""
    check_order(order, "order")
    letters = order[0]
    rows = []
    for one in letters:
        rows.append(tuple(difference_of(order, one, other) for other in letters))
    return tuple(rows)


def order_of(letters, table):
    """The order of these letters, in this sequence, with this table."""
    check_letters(letters, "letters")
    if not is_table(table) or len(table) != len(letters):
        raise BadValue("table")
    return letters, tuple(table[place - 1][place] for place in range(1, len(letters)))


def fits(order, letters, scheme):
    """True if the order fits the scheme for these letters."""
    check_order(order, "order")
    check_letters(letters, "letters")
    check_scheme_for(letters, scheme, "scheme")
    if sorted(order[0]) != sorted(letters):
        return False
    for i, j in combinations(range(len(letters)), 2):
        if difference_of(order, letters[i], letters[j]) != scheme[i][j]:
            return False
    return True


def clash(scheme):
    """The first three indexes that are evidence that no order fits, or None."""
    check_scheme(scheme, "scheme")
    return clash_of(scheme)


def first_order(letters, scheme):
    """The first order that fits the scheme for these letters, or None."""
    check_letters(letters, "letters")
    check_scheme_for(letters, scheme, "scheme")
    if clash_of(scheme) is not None:
        return None
    places = []
    for index in range(len(scheme)):
        # A group has to stay together, so the first index of it decides where it stands.
        places.append((group_in(scheme, index, 1)[0], group_in(scheme, index, 2)[0], index))
    indexes = [place[2] for place in sorted(places)]
    strengths = [scheme[one][other] for one, other in zip(indexes, indexes[1:])]
    return tuple(letters[index] for index in indexes), tuple(strengths)


def count_orders(scheme):
    """The number of the orders that fit the scheme."""
    check_scheme(scheme, "scheme")
    if clash_of(scheme) is not None:
        return 0
    count = 1
    rows = [tuple(range(len(scheme)))]
    for level in LEVELS:
        finer = []
        for members in rows:
            parts = parts_of(scheme, members, level)
            count *= factorial(len(parts))
            finer.extend(parts)
        rows = finer
    return count
