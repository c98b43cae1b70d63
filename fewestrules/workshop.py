"""A workshop: an order that commands change, and its journal."""

from fewestrules.common import longest_common
from fewestrules.errors import BadValue, TooLarge
from fewestrules.fewest import answer_for, distance, shortest_rules
from fewestrules.orders import check_order
from fewestrules.rules import is_rule, is_rule_list, result_of_all
from fewestrules.words import compare

RULE = "rule"
RULES = "rules"
RESET = "reset"
MOST_COMMANDS = 20


def is_command(value):
    """True if the value is a command."""
    if not isinstance(value, tuple) or len(value) not in (1, 2):
        return False
    if len(value) == 1:
        return value[0] == RESET
    if value[0] == RULE:
        return is_rule(value[1])
    return value[0] == RULES and is_rule_list(value[1])


def order_after(initial, current, command):
    """The order that the command makes the current one; raises NotApplicable if it cannot be done."""
    if command[0] == RULE:
        return result_of_all(current, (command[1],))
    if command[0] == RULES:
        return result_of_all(current, command[1])
    return initial


class Workshop:
    """An initial order, the current one, and the journal of the commands that led from the one to the other."""

    def __init__(self, order):
        check_order(order, "order")
        # The initial order, and behind it the one after each command of the journal.
        self._orders = [order]
        self._commands = []

    def do(self, command):
        """Does the command, and returns the distance."""
        if not is_command(command):
            raise BadValue("command")
        order = order_after(self.initial(), self.current(), command)
        if len(self._commands) == MOST_COMMANDS:
            raise TooLarge("commands")
        self._commands.append(command)
        self._orders.append(order)
        return self.distance()

    def undo(self):
        """Undoes the last command, and returns it; None if the journal is empty."""
        if not self._commands:
            return None
        self._orders.pop()
        return self._commands.pop()

    def initial(self):
        """The initial order."""
        return self._orders[0]

    def current(self):
        """The current order."""
        return self._orders[-1]

    def distance(self):
        """The distance from the initial order to the current one."""
        return distance(self.initial(), self.current())

    def shortest(self):
        """The shortest rules from the initial order to the current one."""
        return shortest_rules(self.initial(), self.current())

    def kept(self):
        """The tuple of the letters that need not move between the initial order and the current one."""
        return longest_common(self.initial(), self.current())

    def compare(self, first, second, level):
        """What comparing two words of the current order gives: -1, 0 or 1."""
        return compare(self.current(), first, second, level)

    def journal(self):
        """The tuple of the commands in the journal."""
        return tuple(self._commands)

    def records(self):
        """The tuple of the records of the commands in the journal."""
        found = []
        for command, order in zip(self._commands, self._orders[1:]):
            found.append((command,) + answer_for(self.initial(), order))
        return tuple(found)
