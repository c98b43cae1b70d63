"""What a change of an order does to words: pairs that compare differently, and moved letters."""

from itertools import combinations

from fewestrules.orders import check_level, check_order
from fewestrules.rules import check_rules, led, result_of_all
from fewestrules.sorting import check_words_of
from fewestrules.words import compared, keys_of


def new_order_for(order, rules, words, level):
    """The order to which the rules lead; raises what the functions over words raise for wrong arguments."""
    check_order(order, "order")
    check_rules(rules, "rules")
    check_words_of(order, words, "words")
    check_level(level, "level")
    return result_of_all(order, rules)


def changed_pairs(order, rules, words, level):
    """The list of the pairs of indexes whose words the order and the new order compare differently."""
    new_order = new_order_for(order, rules, words, level)
    before = keys_of(order, words, level)
    after = keys_of(new_order, words, level)
    found = []
    for i, j in combinations(range(len(words)), 2):
        if compared(before[i], before[j]) != compared(after[i], after[j]):
            found.append((i, j))
    return found


def moved_in(order, rules):
    """The tuple of the letters of the order that some rule moves, in its sequence."""
    # Only for its errors: the rules have to be applicable.
    led(order, rules)
    moved = [rule[3] for rule in rules]
    return tuple(letter for letter in order[0] if letter in moved)
