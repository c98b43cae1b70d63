"""The rules that lead from one order to another one and keep a common list."""

from fewestrules.common import check_both, is_common_list
from fewestrules.errors import BadValue
from fewestrules.rules import AFTER, BEFORE


def put_from_left(order, start, stop):
    """Rules for the letters from the place start to the one before stop, each after the letter before it."""
    letters, strengths = order
    return [(AFTER, letters[place - 1], strengths[place - 1], letters[place]) for place in range(start, stop)]


def put_from_right(order, start, stop):
    """Rules for the letters from the place before stop to start, each before the letter behind it."""
    letters, strengths = order
    found = []
    for place in reversed(range(start, stop)):
        found.append((BEFORE, letters[place + 1], strengths[place], letters[place]))
    return found


def put_between(order, left, right):
    """Rules for the letters between two kept ones at the places left and right."""
    strengths = order[1][left:right]
    # The gap is filled from both ends, up to the place where the strongest strength comes first.
    middle = left + 1 + strengths.index(min(strengths))
    return put_from_left(order, left + 1, middle) + put_from_right(order, middle, right)


def reaches(first, second):
    """True if the second order can be reached from the first one; they are not checked again."""
    if not first[0]:
        # Without letters there is no anchor for any rule.
        return not second[0]
    return all(letter in second[0] for letter in first[0])


def keeping_rules(first, second, letters):
    """The tuple of the rules that keep the common list, or None if the second order cannot be reached."""
    check_both(first, second)
    if not is_common_list(first, second, letters) or not letters:
        raise BadValue("letters")
    if not reaches(first, second):
        return None
    places = [second[0].index(letter) for letter in letters]
    rules = put_from_right(second, 0, places[0])
    for left, right in zip(places, places[1:]):
        rules.extend(put_between(second, left, right))
    rules.extend(put_from_left(second, places[-1] + 1, len(second[0])))
    return tuple(rules)
