"""The longest common lists of two orders: how many there are, each by its index, and what is in them."""

from fewestrules.common import check_both, first_longest, followers, is_common_list, lengths_from, letters_of_both
from fewestrules.common import stand_alike
from fewestrules.errors import BadValue
from fewestrules.orders import check_letters, is_integer_within


def best_of(choices, lengths):
    """Those of the letters with which the longest lists begin."""
    most = max([lengths[letter] for letter in choices], default=0)
    return [letter for letter in choices if lengths[letter] == most]


def count_behind(choices, lengths, counts):
    """The number of the longest lists that begin with one of the choices; no choices leave one, the empty list."""
    if not choices:
        return 1
    return sum([counts[letter] for letter in best_of(choices, lengths)])


def counts_from(behind, lengths):
    """For each letter the number of the longest common lists that begin with it."""
    counts = {}
    # From right to left, so that those of the followers are known.
    for letter in reversed(list(behind)):
        counts[letter] = count_behind(behind[letter], lengths, counts)
    return counts


def number_of_longest(behind):
    """The number of the longest common lists of the letters that the followers tell."""
    lengths = lengths_from(behind)
    return count_behind(list(behind), lengths, counts_from(behind, lengths))


def followers_of_both(first, second):
    """The followers of all letters of both orders."""
    return followers(first, second, letters_of_both(first, second))


def begins_at(choices, counts, index):
    """The letter with which the list with this index begins, and its index among those that begin so."""
    place = 0
    while index >= counts[choices[place]]:
        index -= counts[choices[place]]
        place += 1
    return choices[place], index


def count_longest(first, second):
    """The number of the longest common lists."""
    check_both(first, second)
    return number_of_longest(followers_of_both(first, second))


def nth_longest(first, second, index):
    """The longest common list with this index."""
    check_both(first, second)
    behind = followers_of_both(first, second)
    if not is_integer_within(index, 0, number_of_longest(behind) - 1):
        raise BadValue("index")
    lengths = lengths_from(behind)
    counts = counts_from(behind, lengths)
    found = []
    choices = list(behind)
    while choices:
        letter, index = begins_at(best_of(choices, lengths), counts, index)
        found.append(letter)
        choices = behind[letter]
    return tuple(found)


def index_of_longest(first, second, letters):
    """The index of the value among the longest common lists, or None if it is none of them."""
    check_both(first, second)
    behind = followers_of_both(first, second)
    lengths = lengths_from(behind)
    most = max(lengths.values(), default=0)
    if not is_common_list(first, second, letters) or len(letters) != most:
        return None
    counts = counts_from(behind, lengths)
    index = 0
    choices = list(behind)
    for letter in letters:
        best = best_of(choices, lengths)
        index += sum([counts[other] for other in best[:best.index(letter)]])
        choices = behind[letter]
    return index


def longest_among(first, second, letters):
    """The longest common list in which only these letters of both orders are."""
    return first_longest(followers(first, second, letters))


def always_in(first, second):
    """The tuple of the letters of the second order that are in all longest common lists."""
    check_both(first, second)
    letters = letters_of_both(first, second)
    most = len(longest_among(first, second, letters))
    found = []
    for letter in letters:
        others = [other for other in letters if other != letter]
        # A letter that no longest list can do without is in all of them.
        if len(longest_among(first, second, others)) < most:
            found.append(letter)
    return tuple(found)


def never_in(first, second):
    """The tuple of the letters of the second order that are in no longest common list."""
    check_both(first, second)
    most = len(longest_among(first, second, letters_of_both(first, second)))
    found = []
    for letter in second[0]:
        if letter not in first[0] or len(longest_through(first, second, (letter,))) < most:
            found.append(letter)
    return tuple(found)


def longest_through(first, second, wanted):
    """The longest common list with the wanted letters, which are a common list."""
    letters = letters_of_both(first, second)
    for kept in wanted:
        # What goes with each wanted letter makes, with all of them, a common list again.
        letters = [letter for letter in letters if goes_with(first, second, letter, kept)]
    return longest_among(first, second, letters)


def goes_with(first, second, one, other):
    """True if both letters are the same one, or can be in one common list."""
    return one == other or stand_alike(first, second, one, other) or stand_alike(first, second, other, one)


def longest_with(first, second, letters):
    """The longest with these letters, or None if no common list contains all of them."""
    check_both(first, second)
    check_letters(letters, "letters")
    wanted = tuple(letter for letter in second[0] if letter in letters)
    if len(wanted) != len(letters) or not is_common_list(first, second, wanted):
        return None
    return longest_through(first, second, wanted)
