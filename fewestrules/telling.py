"""Orders of the same letters that compare words alike, and words that tell them apart."""

from itertools import combinations

from fewestrules.orders import check_level, check_order, check_order_of_same, groups_of
from fewestrules.words import compared, is_word_of, keys_of


def check_telling(first, second, level):
    """Raises BadValue for the first of the three that has a wrong form."""
    check_order(first, "first")
    check_order_of_same(first, second, "second")
    check_level(level, "level")


def sorted_groups(order, level):
    """The groups of the level in their sequence, the letters in each of them sorted."""
    return [sorted(row) for row in groups_of(order, level)]


def strengths_between(order, level):
    """The list of the strengths between the groups of the level."""
    return [strength for strength in order[1] if strength <= level]


def has_both_weak(strengths):
    """True if the strengths 2 and 3 are both among these."""
    return 2 in strengths and 3 in strengths


def are_alike_between(ones, others):
    """True if two orders with the same groups and these strengths between them compare words alike."""
    if ones == others:
        return True
    if has_both_weak(ones) or has_both_weak(others):
        return False
    # At lesser levels than 3 no strength 3 stands between groups, so lists that differ have the 1 at other places.
    return [strength == 1 for strength in ones] == [strength == 1 for strength in others]


def are_alike(first, second, level):
    """True if the two orders compare alike at the level; the arguments are not checked again."""
    if sorted_groups(first, level) != sorted_groups(second, level):
        return False
    return are_alike_between(strengths_between(first, level), strengths_between(second, level))


def short_words(letters):
    """All words of at most two of the letters, in the sequence in which telling words are looked for."""
    ones = [(letter,) for letter in letters]
    return [()] + ones + [one + other for one in ones for other in ones]


def compare_alike(first, second, level):
    """True if the two orders compare each two words alike at the level."""
    check_telling(first, second, level)
    return are_alike(first, second, level)


def telling_words(first, second, level):
    """The first two words that the orders compare differently, or None if they compare alike."""
    check_telling(first, second, level)
    if are_alike(first, second, level):
        return None
    words = short_words(first[0])
    ones = keys_of(first, words, level)
    others = keys_of(second, words, level)
    for i, j in combinations(range(len(words)), 2):
        if compared(ones[i], ones[j]) != compared(others[i], others[j]):
            return words[i], words[j]
    return None


def shows_unlike(first, second, level, value):
    """True if the value is a pair of words that the two orders compare differently at the level."""
    check_telling(first, second, level)
    if not isinstance(value, tuple) or len(value) != 2 or not all(is_word_of(first, word) for word in value):
        return False
    ones = keys_of(first, value, level)
    others = keys_of(second, value, level)
    return compared(ones[0], ones[1]) != compared(others[0], others[1])
