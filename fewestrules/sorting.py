"""Words that are sorted: rows of equal ones, and the places of words among them."""

from fewestrules.errors import BadValue
from fewestrules.orders import check_level, check_order
from fewestrules.words import check_word_of, is_word_of, keys_of

MOST_WORDS = 12


def is_words_of(order, value):
    """True if the value is a tuple of 0 to 12 words of the order, which is not checked again."""
    if not isinstance(value, tuple) or len(value) > MOST_WORDS:
        return False
    return all(is_word_of(order, word) for word in value)


def check_words_of(order, value, name):
    """Raises BadValue with the name if the value is not a tuple of words of the order."""
    if not is_words_of(order, value):
        raise BadValue(name)


def check_sorting(order, words, level):
    """Raises BadValue for the first of the three that has a wrong form."""
    check_order(order, "order")
    check_words_of(order, words, "words")
    check_level(level, "level")


def are_ascending(keys):
    """True if no key comes before the one ahead of it."""
    return all(one <= other for one, other in zip(keys, keys[1:]))


def sorted_places(keys):
    """The places of words with these keys, sorted; those of equal words in ascending order."""
    return sorted(range(len(keys)), key=lambda place: keys[place])


def is_words(order, value):
    """True if the value is a tuple of 0 to 12 words of the order."""
    check_order(order, "order")
    return is_words_of(order, value)


def are_sorted(order, words, level):
    """True if the words are sorted at the level."""
    check_sorting(order, words, level)
    return are_ascending(keys_of(order, words, level))


def sorted_words(order, words, level):
    """The tuple of the sorted words; words that are equal at the level keep their sequence."""
    check_sorting(order, words, level)
    return tuple(words[place] for place in sorted_places(keys_of(order, words, level)))


def equal_rows(order, words, level):
    """The list of the rows of equal words, tuples of words."""
    check_sorting(order, words, level)
    keys = keys_of(order, words, level)
    if not are_ascending(keys):
        raise BadValue("words")
    rows = []
    for place, word in enumerate(words):
        if place > 0 and keys[place] == keys[place - 1]:
            rows[-1].append(word)
        else:
            rows.append([word])
    return [tuple(row) for row in rows]


def place_of_word(order, words, word, level):
    """The place of the word in the sorted words: how many come before it, and how many do not come after it."""
    check_order(order, "order")
    check_words_of(order, words, "words")
    check_word_of(order, word, "word")
    check_level(level, "level")
    keys = keys_of(order, words, level)
    if not are_ascending(keys):
        raise BadValue("words")
    wanted = keys_of(order, (word,), level)[0]
    before = [found for found in keys if found < wanted]
    not_after = [found for found in keys if found <= wanted]
    return len(before), len(not_after)
