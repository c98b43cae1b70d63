"""Words of an order: the weights of letters, keys, and how words are compared."""

from fewestrules.errors import BadValue
from fewestrules.orders import check_letter_of, check_level, check_order, is_letter_of

MOST_IN_WORD = 12


def is_word_of(order, value):
    """True if the value is a word of the order, which is not checked again."""
    if not isinstance(value, tuple) or len(value) > MOST_IN_WORD:
        return False
    return all(is_letter_of(order, letter) for letter in value)


def check_word_of(order, value, name):
    """Raises BadValue with the name if the value is not a word of the order."""
    if not is_word_of(order, value):
        raise BadValue(name)


def weights_of(order):
    """A dict of the weights of all letters of the order, which is not checked again."""
    found = {}
    group, part, number = 0, 0, 0
    # The first letter begins groups of all levels, as a letter does that stands behind the strength 1.
    for letter, strength in zip(order[0], (1,) + order[1]):
        if strength == 1:
            group, part, number = group + 1, 1, 1
        elif strength == 2:
            part, number = part + 1, 1
        else:
            number += 1
        found[letter] = (group, part, number)
    return found


def key_by(table, word, level):
    """The key of a word for the level, by the weights in the table."""
    rows = []
    for place in range(level):
        rows.append(tuple(table[letter][place] for letter in word))
    return tuple(rows)


def keys_of(order, words, level):
    """The list of the keys of the words; the arguments are not checked again."""
    table = weights_of(order)
    return [key_by(table, word, level) for word in words]


def compared(one, other):
    """What comparing two words gives that have these keys: -1, 0 or 1."""
    if one == other:
        return 0
    return -1 if one < other else 1


def is_word(order, value):
    """True if the value is a word of the order."""
    check_order(order, "order")
    return is_word_of(order, value)


def weights(order, letter):
    """The tuple of the three weights of the letter."""
    check_order(order, "order")
    check_letter_of(order, letter, "letter")
    return weights_of(order)[letter]


def key(order, word, level):
    """The key of the word for the level, a tuple of tuples."""
    check_order(order, "order")
    check_word_of(order, word, "word")
    check_level(level, "level")
    return key_by(weights_of(order), word, level)


def compare(order, first, second, level):
    """-1 if the first word comes before the second one, 0 if they are equal at the level, and 1 otherwise."""
    check_order(order, "order")
    check_word_of(order, first, "first")
    check_word_of(order, second, "second")
    check_level(level, "level")
    one, other = keys_of(order, (first, second), level)
    return compared(one, other)
