"""Journals of workshops: workshops that are replayed from them, and the judge of records."""

from fewestrules.errors import BadValue, NotApplicable
from fewestrules.fewest import is_fewest
from fewestrules.orders import check_order
from fewestrules.workshop import MOST_COMMANDS, Workshop, is_command, order_after


def is_journal(value):
    """True if the value is a tuple of at most 20 commands."""
    if not isinstance(value, tuple) or len(value) > MOST_COMMANDS:
        return False
    return all(is_command(command) for command in value)


def order_after_or_none(initial, current, command):
    """The order that the command makes the current one, or None if it cannot be done."""
    try:
        return order_after(initial, current, command)
    except NotApplicable:
        return None


def order_after_record(initial, current, record):
    """The current order after the command of the record, or None if the record is not right there."""
    if not isinstance(record, tuple) or len(record) != 3 or not is_command(record[0]):
        return None
    command, rules, levels = record
    order = order_after_or_none(initial, current, command)
    if order is None or not is_fewest(initial, order, rules, levels):
        return None
    return order


def replayed(order, journal):
    """The workshop with this initial order in which the commands of the journal were done, one after another."""
    check_order(order, "order")
    if not is_journal(journal):
        raise BadValue("journal")
    workshop = Workshop(order)
    for command in journal:
        workshop.do(command)
    return workshop


def are_right(order, records):
    """True if the value is records that are right for the order as the initial one."""
    check_order(order, "order")
    if not isinstance(records, tuple):
        return False
    current = order
    for record in records:
        current = order_after_record(order, current, record)
        if current is None:
            return False
    return True
