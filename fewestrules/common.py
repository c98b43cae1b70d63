"""Common lists of two orders, the longest one, and levels as evidence for it."""

from fewestrules.orders import check_order, difference_of, is_integer, is_letter_tuple


def check_both(first, second):
    """Raises BadValue for the first of the two that is not an order."""
    check_order(first, "first")
    check_order(second, "second")


def stand_alike(first, second, one, other):
    """True if one stands before other in both orders, with the same difference."""
    if first[0].index(one) >= first[0].index(other):
        return False
    if second[0].index(one) >= second[0].index(other):
        return False
    return difference_of(first, one, other) == difference_of(second, one, other)


def letters_of_both(first, second):
    """The list of the letters of both orders, in the sequence of the second one."""
    return [letter for letter in second[0] if letter in first[0]]


def followers(first, second, letters):
    """A dict that tells for each of the letters which of them can be the next in a common list.

    The letters are of both orders. They and their followers stand in the sequence of the second order.
    """
    behind = {}
    for one in letters:
        behind[one] = [other for other in letters if stand_alike(first, second, one, other)]
    return behind


def lengths_from(behind):
    """For each letter the number of letters of a longest common list that begins with it."""
    lengths = {}
    # From right to left, so that those of the followers are known.
    for letter in reversed(list(behind)):
        lengths[letter] = 1 + max([lengths[other] for other in behind[letter]], default=0)
    return lengths


def first_longest(behind):
    """The first one of the longest common lists of the letters that the followers tell."""
    lengths = lengths_from(behind)
    found = []
    choices = list(behind)
    while choices:
        # Of equally good letters, max takes the one that stands earliest in the second order.
        letter = max(choices, key=lambda other: lengths[other])
        found.append(letter)
        choices = behind[letter]
    return tuple(found)


def is_common_list(first, second, value):
    """True if the value is a common list of the orders, which are not checked again."""
    if not is_letter_tuple(value):
        return False
    if not all(letter in first[0] and letter in second[0] for letter in value):
        return False
    return all(stand_alike(first, second, one, other) for one, other in zip(value, value[1:]))


def is_common(first, second, letters):
    """True if the value is a common list of the two orders."""
    check_both(first, second)
    return is_common_list(first, second, letters)


def longest_common(first, second):
    """The longest common list of the two orders."""
    check_both(first, second)
    return first_longest(followers(first, second, letters_of_both(first, second)))


def levels_for(first, second):
    """The right levels that tell how long a common list can be that ends with a letter."""
    check_both(first, second)
    behind = followers(first, second, letters_of_both(first, second))
    levels = {letter: 0 for letter in second[0]}
    for letter in behind:
        ahead = [levels[other] for other in behind if letter in behind[other]]
        levels[letter] = 1 + max(ahead, default=0)
    return tuple(levels[letter] for letter in second[0])


def accepts_levels(first, second, levels):
    """True if the value is a tuple of right levels for the two orders."""
    check_both(first, second)
    return are_right_levels(first, second, levels)


def are_right_levels(first, second, value):
    """True if the value is right levels for the orders, which are not checked again."""
    if not isinstance(value, tuple) or len(value) != len(second[0]):
        return False
    if not all(is_integer(level) for level in value):
        return False
    for letter, level in zip(second[0], value):
        if letter in first[0] and level < 1:
            return False
        if letter not in first[0] and level != 0:
            return False
    return rise(first, second, dict(zip(second[0], value)))


def rise(first, second, levels):
    """True if the levels of the letters of both orders rise wherever two of them stand alike."""
    behind = followers(first, second, letters_of_both(first, second))
    for one in behind:
        if not all(levels[other] > levels[one] for other in behind[one]):
            return False
    return True
