"""Rules that a list can do without, and grounds for dropping them."""

from fewestrules.errors import BadValue
from fewestrules.orders import is_integer_within
from fewestrules.rules import check_rules


def replaced_by(rules, index, behind):
    """The index of the rule that makes this one redundant, or None.

    The rules behind it are told by their indexes, in ascending order.
    """
    letter = rules[index][3]
    for later in behind:
        if rules[later][3] == letter:
            return later
        if rules[later][1] == letter:
            return None
    return None


def grounds_of(rules):
    """The grounds that leave the pruned list; the rules, of which there can be any number, are not checked."""
    kept = []
    grounds = []
    for index in reversed(range(len(rules))):
        later = replaced_by(rules, index, kept)
        if later is None:
            kept.insert(0, index)
        else:
            grounds.insert(0, (index, later))
    return tuple(grounds)


def kept_indexes(rules, grounds):
    """The list of the indexes that the grounds do not drop."""
    dropped = [pair[0] for pair in grounds]
    return [index for index in range(len(rules)) if index not in dropped]


def rules_left(rules, grounds):
    """The tuple of the rules that the grounds do not drop; the arguments are not checked again."""
    return tuple(rules[index] for index in kept_indexes(rules, grounds))


def pruned_list(rules):
    """The pruned list; the rules, of which there can be any number, are not checked."""
    return rules_left(rules, grounds_of(rules))


def is_index_pair(value, many):
    """True if the value is a pair of indexes of so many rules."""
    if not isinstance(value, tuple) or len(value) != 2:
        return False
    return all(is_integer_within(index, 0, many - 1) for index in value)


def are_grounds(value, many):
    """True if the value has the form of grounds for so many rules."""
    if not isinstance(value, tuple) or not all(is_index_pair(pair, many) for pair in value):
        return False
    return all(one[0] < other[0] for one, other in zip(value, value[1:]))


def is_ground(rules, kept, index, later):
    """True if the rule with this index can be dropped because of the later one, where these indexes are kept."""
    letter = rules[index][3]
    if later not in kept or later <= index or rules[later][3] != letter:
        return False
    return all(rules[between][1] != letter for between in kept if index < between < later)


def are_accepted(rules, value):
    """True if the value is accepted grounds; the rules are not checked again."""
    if not are_grounds(value, len(rules)):
        return False
    kept = kept_indexes(rules, value)
    return all(is_ground(rules, kept, index, later) for index, later in value)


def redundant(rules):
    """The list of the indexes of the redundant rules, in ascending order."""
    check_rules(rules, "rules")
    indexes = list(range(len(rules)))
    return [index for index in indexes if replaced_by(rules, index, indexes[index + 1:]) is not None]


def pruned(rules):
    """The pruned list, a tuple."""
    check_rules(rules, "rules")
    return pruned_list(rules)


def grounds_for(rules):
    """Accepted grounds, a tuple, after which the kept rules are the pruned list."""
    check_rules(rules, "rules")
    return grounds_of(rules)


def accepts_dropped(rules, grounds):
    """True if the value is accepted as grounds for the rule list."""
    check_rules(rules, "rules")
    return are_accepted(rules, grounds)


def kept_rules(rules, grounds):
    """The tuple of the rules that are kept."""
    check_rules(rules, "rules")
    if not are_accepted(rules, grounds):
        raise BadValue("grounds")
    return rules_left(rules, grounds)
