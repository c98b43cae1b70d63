"""Letters and orders: their forms, differences and groups."""

from fewestrules.errors import BadValue

MOST_LETTERS = 12
MOST_CHARACTERS = 12
SAME = 4
STRENGTHS = (1, 2, 3)
FIRST_CHARACTERS = "abcdefghijklmnopqrstuvwxyz"
CHARACTERS = "abcdefghijklmnopqrstuvwxyz0123456789"


def is_integer(value):
    """True if the value is an integer; True and False are none."""
    return isinstance(value, int) and not isinstance(value, bool)


def is_integer_within(value, least, most):
    """True if the value is an integer from least to most."""
    return is_integer(value) and least <= value <= most


def is_strength(value):
    """True if the value is a strength, which is what a level may be, too."""
    return is_integer_within(value, 1, 3)


def is_letter(value):
    """True if the value is a letter."""
    if not isinstance(value, str) or not 1 <= len(value) <= MOST_CHARACTERS:
        return False
    return value[0] in FIRST_CHARACTERS and all(sign in CHARACTERS for sign in value)


def is_letter_tuple(value):
    """True if the value is a tuple of 0 to 12 different letters."""
    if not isinstance(value, tuple) or len(value) > MOST_LETTERS:
        return False
    return all(is_letter(letter) for letter in value) and len(set(value)) == len(value)


def is_order(value):
    """True if the value is an order."""
    if not isinstance(value, tuple) or len(value) != 2:
        return False
    letters, strengths = value
    if not is_letter_tuple(letters) or not isinstance(strengths, tuple):
        return False
    if len(strengths) != max(len(letters) - 1, 0):
        return False
    return all(is_strength(strength) for strength in strengths)


def is_letter_of(order, value):
    """True if the value is a letter of the order."""
    return is_letter(value) and value in order[0]


def check_order(value, name):
    """Raises BadValue with the name if the value is not an order."""
    if not is_order(value):
        raise BadValue(name)


def is_order_of_same(order, value):
    """True if the value is an order of the same letters as the order."""
    return is_order(value) and sorted(value[0]) == sorted(order[0])


def check_order_with_letters(value, name):
    """Raises BadValue with the name if the value is not an order with at least one letter."""
    if not is_order(value) or not value[0]:
        raise BadValue(name)


def check_order_of_same(order, value, name):
    """Raises BadValue with the name if the value is not an order of the same letters as the order."""
    if not is_order_of_same(order, value):
        raise BadValue(name)


def check_letters(value, name):
    """Raises BadValue with the name if the value is not a tuple of 0 to 12 different letters."""
    if not is_letter_tuple(value):
        raise BadValue(name)


def check_letter_of(order, value, name):
    """Raises BadValue with the name if the value is not a letter of the order."""
    if not is_letter_of(order, value):
        raise BadValue(name)


def check_level(value, name):
    """Raises BadValue with the name if the value is not a level."""
    if not is_strength(value):
        raise BadValue(name)


def difference_of(order, one, other):
    """The difference of two letters of an order; the arguments are not checked again."""
    letters, strengths = order
    low, high = sorted([letters.index(one), letters.index(other)])
    return min(strengths[low:high], default=SAME)


def groups_of(order, level):
    """The groups as lists of letters; the arguments are not checked again."""
    letters, strengths = order
    rows = []
    for place, letter in enumerate(letters):
        if place > 0 and strengths[place - 1] > level:
            rows[-1].append(letter)
        else:
            rows.append([letter])
    return rows


def difference(order, first, second):
    """The difference of two letters of the order."""
    check_order(order, "order")
    check_letter_of(order, first, "first")
    check_letter_of(order, second, "second")
    return difference_of(order, first, second)


def groups(order, level):
    """The list of the groups of the order at the level, tuples of letters."""
    check_order(order, "order")
    check_level(level, "level")
    return [tuple(row) for row in groups_of(order, level)]


def group_of(order, letter, level):
    """The group of the level in which the letter is, a tuple."""
    check_order(order, "order")
    check_letter_of(order, letter, "letter")
    check_level(level, "level")
    return tuple(other for other in order[0] if difference_of(order, letter, other) > level)


def without(order, letters):
    """The order with these letters taken out."""
    check_order(order, "order")
    check_letters(letters, "letters")
    left = tuple(letter for letter in order[0] if letter not in letters)
    return left, tuple(difference_of(order, one, other) for one, other in zip(left, left[1:]))


def reversed_order(order):
    """The order with its letters and strengths in reversed sequence."""
    check_order(order, "order")
    letters, strengths = order
    return letters[::-1], strengths[::-1]
