"""The words that stay in their sequence when the order changes, and covers as evidence that no more can."""

from fewestrules.common import first_longest
from fewestrules.effects import new_order_for
from fewestrules.orders import is_integer_within
from fewestrules.sorting import sorted_places
from fewestrules.words import keys_of


def sorted_and_new_keys(order, rules, words, level):
    """The list of the indexes of the sorted words, and the keys of all words by the new order.

    Raises what the functions over words raise for wrong arguments.
    """
    new_order = new_order_for(order, rules, words, level)
    return sorted_places(keys_of(order, words, level)), keys_of(new_order, words, level)


def can_follow(indexes, keys):
    """A dict that tells for each of the sorted indexes which ones behind it can stay behind it."""
    behind = {}
    for place, index in enumerate(indexes):
        behind[index] = [other for other in indexes[place + 1:] if keys[index] <= keys[other]]
    return behind


def heights_of(indexes, keys):
    """A dict of the heights of all words, in the sequence of the sorted indexes."""
    heights = {}
    for index in indexes:
        ahead = [heights[other] for other in heights if keys[other] <= keys[index]]
        heights[index] = 1 + max(ahead, default=0)
    return heights


def are_ascending_places(value, indexes):
    """True if the value is a tuple of indexes, each once, in the sequence of the sorted indexes."""
    if not isinstance(value, tuple):
        return False
    if not all(is_integer_within(index, 0, len(indexes) - 1) for index in value):
        return False
    places = [indexes.index(index) for index in value]
    return all(one < other for one, other in zip(places, places[1:]))


def is_staying_part(value, indexes, keys):
    """True if the value is a part of the sorted indexes whose words stay."""
    if not are_ascending_places(value, indexes):
        return False
    return all(keys[one] <= keys[other] for one, other in zip(value, value[1:]))


def is_falling_part(value, indexes, keys):
    """True if the value is a part of the sorted indexes in which each word comes before the one ahead of it."""
    if not are_ascending_places(value, indexes):
        return False
    return all(keys[one] > keys[other] for one, other in zip(value, value[1:]))


def is_cover(value, indexes, keys):
    """True if the value is a cover."""
    if not isinstance(value, tuple) or not all(is_falling_part(part, indexes, keys) for part in value):
        return False
    return sorted([index for part in value for index in part]) == list(range(len(indexes)))


def staying(order, rules, words, level):
    """The tuple of the indexes of the words that stay."""
    indexes, keys = sorted_and_new_keys(order, rules, words, level)
    # Of parts, as of common lists, the first one of the longest is asked for, and it is found in the same way.
    return first_longest(can_follow(indexes, keys))


def cover_for(order, rules, words, level):
    """The told cover: the words of each height."""
    indexes, keys = sorted_and_new_keys(order, rules, words, level)
    heights = heights_of(indexes, keys)
    parts = [[] for _ in range(max(heights.values(), default=0))]
    for index in indexes:
        parts[heights[index] - 1].append(index)
    return tuple(tuple(part) for part in parts)


def accepts_staying(order, rules, words, level, kept, cover):
    """True if the judge accepts the kept indexes and the cover as an answer."""
    indexes, keys = sorted_and_new_keys(order, rules, words, level)
    if not is_staying_part(kept, indexes, keys) or not is_cover(cover, indexes, keys):
        return False
    return len(kept) == len(cover)
