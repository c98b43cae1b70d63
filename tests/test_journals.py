"""Points 2, 132 to 134 and 137: records, the judge of them, and workshops that are replayed."""

import random
import unittest

from fewestrules.errors import NotApplicable
from fewestrules.fewest import answer_for, is_fewest, shortest_rules
from fewestrules.journals import are_right, replayed
from fewestrules.workshop import Workshop
from tests.helpers import (GOOD_RULE, NAMES, OTHER_VALUES, TWELVE, WRONG_COMMANDS, WRONG_ORDERS, WRONG_RULE_LISTS,
                           assert_bad_value, assert_bad_values, reckoned_longest, reckoned_or_none, reckoned_right,
                           same, some_command, some_order)

ORDER = (("a", "b", "c"), (1, 1))
EMPTY = ((), ())
FULL = (TWELVE, (1, 2, 3, 1, 2, 3, 1, 2, 3, 1, 2))
C_TO_FRONT = ("rule", ("before", "a", 1, "c"))
NEW = ("rule", ("after", "c", 1, "d"))
NOT_THERE = ("rule", ("after", "z", 1, "a"))
RESET = ("reset",)
JOURNAL = (C_TO_FRONT, NEW, ("rules", (("after", "d", 2, "a"), ("before", "d", 3, "b"))), RESET, NEW)


def state_of(workshop):
    return (workshop.initial(), workshop.current(), workshop.distance(), workshop.shortest(), workshop.kept(),
            workshop.journal(), workshop.records())


def some_workshops(seed, many, most=12):
    """Workshops in which some commands were done and undone."""
    chance = random.Random(seed)
    for turn in range(many):
        workshop = Workshop(some_order(chance, NAMES, turn % (most + 1)))
        for _ in range(chance.randrange(9)):
            if chance.random() < 0.2:
                workshop.undo()
            try:
                workshop.do(some_command(chance, workshop.current()))
            except NotApplicable:
                pass
        yield workshop


def reckoned_answer(first, second, rules, levels):
    """Point 48 sentence by sentence, for a rule list and a tuple of integers."""
    if reckoned_or_none(first, rules) != second or len(levels) != len(second[0]):
        return False
    return reckoned_right(first, second, levels) and len(rules) + max(levels, default=0) == len(second[0])


def reckoned_records(order, records):
    """Point 133 sentence by sentence, for records of the right form."""
    current = order
    for command, rules, levels in records:
        if command[0] == "reset":
            current = order
        else:
            current = reckoned_or_none(current, command[1:] if command[0] == "rule" else command[1])
        if current is None or not reckoned_answer(order, current, rules, levels):
            return False
    return True


def other_commands(command):
    """Commands in place of this one."""
    yield from (RESET, ("rules", ()), C_TO_FRONT, NEW, NOT_THERE, ("rules", (NEW[1], C_TO_FRONT[1])))
    if command[0] == "rule":
        side, anchor, strength, letter = command[1]
        yield ("rules", (command[1],))
        yield ("rules", (command[1], command[1]))
        yield ("rule", ({"after": "before", "before": "after"}[side], anchor, strength, letter))
        yield ("rule", (side, anchor, strength % 3 + 1, letter))
        yield ("rule", (side, letter, strength, anchor))
    elif command[0] == "rules":
        yield ("rules", command[1][1:])
        yield ("rules", command[1][::-1])


def other_rules(rules):
    """Rule lists in place of these ones."""
    yield ()
    yield rules[::-1]
    for at, (side, anchor, strength, letter) in enumerate(rules):
        yield rules[:at] + rules[at + 1:]
        yield rules[:at] + (rules[at],) + rules[at:]
        yield rules[:at] + ((side, anchor, strength % 3 + 1, letter),) + rules[at + 1:]
        yield rules[:at] + ((side, letter, strength, anchor),) + rules[at + 1:]


def other_levels(levels):
    """Levels in place of these ones."""
    yield ()
    yield levels + (1,)
    for at in range(len(levels)):
        yield levels[:at] + levels[at + 1:]
        for change in (-1, 1, 5):
            yield levels[:at] + (levels[at] + change,) + levels[at + 1:]


class Records(unittest.TestCase):
    def test_a_command_and_an_answer(self):
        for workshop in some_workshops(300, 80):
            order = workshop.initial()
            current = order
            same(self, tuple(record[0] for record in workshop.records()), workshop.journal())
            for command, rules, levels in workshop.records():
                step = Workshop(current)
                current = order if command == RESET else (step.do(command), step.current())[1]
                same(self, (rules, levels), answer_for(order, current))
                same(self, rules, shortest_rules(order, current))
                same(self, len(rules), len(current[0]) - len(reckoned_longest(order, current)[0]))
                same(self, is_fewest(order, current, rules, levels), True)

    def test_those_of_a_workshop_are_right(self):
        for workshop in some_workshops(301, 120):
            same(self, are_right(workshop.initial(), workshop.records()), True)
            same(self, reckoned_records(workshop.initial(), workshop.records()), True)

    def test_no_records(self):
        for order in (EMPTY, ORDER, FULL):
            same(self, are_right(order, ()), True)
            same(self, Workshop(order).records(), ())


class Judge(unittest.TestCase):
    def test_each_part_changed(self):
        told = {True: 0, False: 0}
        for workshop in some_workshops(302, 40, 8):
            order, records = workshop.initial(), workshop.records()
            for at, (command, rules, levels) in enumerate(records):
                changed = [(other, rules, levels) for other in other_commands(command)]
                changed += [(command, other, levels) for other in other_rules(rules)]
                changed += [(command, rules, other) for other in other_levels(levels)]
                for record in changed:
                    given = records[:at] + (record,) + records[at + 1:]
                    wanted = reckoned_records(order, given)
                    same(self, are_right(order, given), wanted)
                    told[wanted] += 1
        self.assertGreater(told[True], 100)
        self.assertGreater(told[False], 1000)

    def test_records_less_more_and_in_another_sequence(self):
        told = {True: 0, False: 0}
        for workshop in some_workshops(303, 60, 8):
            order, records = workshop.initial(), workshop.records()
            given = [records[:at] for at in range(len(records))]
            given += [records[:at] + records[at + 1:] for at in range(len(records))]
            given += [records[:at + 1] + records[at:] for at in range(len(records))]
            given += [records[::-1], records + records]
            for other in given:
                wanted = reckoned_records(order, other)
                same(self, are_right(order, other), wanted)
                told[wanted] += 1
        self.assertGreater(told[True], 100)
        self.assertGreater(told[False], 50)

    def test_other_answers_than_those_of_the_workshop(self):
        command, levels = ("rule", ("after", "a", 1, "c")), (1, 2, 2)
        for rule, wanted in ((("after", "a", 1, "c"), True), (("before", "b", 1, "c"), True),
                             (("after", "c", 1, "b"), True), (("after", "a", 2, "c"), False),
                             (("before", "a", 1, "c"), False), (("after", "a", 1, "b"), False)):
            same(self, are_right(ORDER, ((command, (rule,), levels),)), wanted)
        for other in ((1, 2, 1), (1, 1, 2), (1, 2, 3), (2, 3, 3), (1, 3, 2)):
            same(self, are_right(ORDER, ((command, command[1:], other),)), False)
        same(self, are_right(ORDER, ((command, command[1:] * 2, levels),)), False)
        same(self, are_right(ORDER, ((command, (), levels),)), False)
        # Right levels that are no least ones: only the greatest one counts.
        records = ((RESET, (), (1, 2, 3)), (("rule", ("before", "a", 1, "c")), (("before", "a", 1, "c"),), (2, 1, 2)))
        same(self, are_right(ORDER, records), True)

    def test_another_initial_order(self):
        workshop = replayed(ORDER, JOURNAL)
        records = workshop.records()
        same(self, are_right(ORDER, records), True)
        for order in (EMPTY, FULL, (("b", "a", "c"), (1, 1)), (("a", "b"), (1,)), (("a", "b", "d"), (1, 1))):
            same(self, are_right(order, records), False)
        # The commands move what differs, so the records are right for these orders, too.
        for order in ((("a", "b", "c"), (1, 2)), (("a", "b", "c"), (2, 1))):
            same(self, reckoned_records(order, records), True)
            same(self, are_right(order, records), True)

    def test_commands_that_cannot_be_done(self):
        same(self, are_right(ORDER, ((NOT_THERE, (), (1, 2, 3)),)), False)
        same(self, are_right(ORDER, ((("rules", (NEW[1], NOT_THERE[1])), (NEW[1],), (1, 2, 3, 0)),)), False)
        full = ((("rule", ("after", "a", 1, "m")), (), tuple(range(1, 13))),)
        same(self, are_right(FULL, full), False)
        same(self, are_right(EMPTY, ((C_TO_FRONT, (), ()),)), False)

    def test_resets(self):
        same(self, are_right(ORDER, ((RESET, (), (1, 2, 3)),)), True)
        same(self, are_right(ORDER, ((NEW, (NEW[1],), (1, 2, 3, 0)), (RESET, (), (1, 2, 3)))), True)
        same(self, are_right(ORDER, ((NEW, (NEW[1],), (1, 2, 3, 0)), (RESET, (NEW[1],), (1, 2, 3, 0)))), False)
        same(self, are_right(EMPTY, ((RESET, (), ()), (("rules", ()), (), ()))), True)

    def test_twenty_records_and_more(self):
        # A journal has at most 20 commands; of records no number is told.
        record = (RESET, (), (1, 2, 3))
        for many in (1, 20, 21, 50):
            same(self, are_right(ORDER, (record,) * many), True)
            same(self, are_right(ORDER, (record,) * many + (None,)), False)

    def test_every_value(self):
        records = replayed(ORDER, JOURNAL).records()
        same(self, are_right(ORDER, records), True)
        same(self, are_right(ORDER, records[0]), False)
        for value in OTHER_VALUES + WRONG_COMMANDS + (list(records), list(records[0]), {records[0]: 1}, (records,)):
            if value != ():
                same(self, are_right(ORDER, value), False)
            for at in range(len(records)):
                same(self, are_right(ORDER, records[:at] + (value,) + records[at + 1:]), False)
                command, rules, levels = records[at]
                for record in ((value, rules, levels), (command, value, levels), (command, rules, value)):
                    if repr(record) != repr(records[at]):
                        same(self, are_right(ORDER, records[:at] + (record,) + records[at + 1:]), False)

    def test_parts_of_other_forms(self):
        command, rules, levels = record = (NEW, (NEW[1],), (1, 2, 3, 0))
        same(self, are_right(ORDER, (record,)), True)
        for value in ((command, rules), (command, rules, levels, ()), list(record), [record], (rules, command, levels),
                      (command, levels, rules), (command, list(rules), levels), (command, rules, list(levels)),
                      (list(command), rules, levels), (("rule", list(NEW[1])), rules, levels),
                      (command, NEW[1], levels),
                      (command, rules, (True, 2, 3, 0)), (command, rules, (1, 2, 3, False)),
                      (command, (list(NEW[1]),), levels),
                      (("rules", NEW[1]), rules, levels), (("rule", (NEW[1],)), rules, levels), command, ()):
            same(self, are_right(ORDER, (value,)), False)
        for rules in WRONG_RULE_LISTS:
            same(self, are_right(ORDER, ((command, rules, levels),)), False)


class Replayed(unittest.TestCase):
    def test_the_same_state(self):
        for workshop in some_workshops(304, 120):
            again = replayed(workshop.initial(), workshop.journal())
            self.assertIsInstance(again, Workshop)
            same(self, state_of(again), state_of(workshop))

    def test_undone_then(self):
        for workshop in some_workshops(305, 60):
            again = replayed(workshop.initial(), workshop.journal())
            for _ in range(len(workshop.journal()) + 1):
                same(self, again.undo(), workshop.undo())
                same(self, state_of(again), state_of(workshop))

    def test_it_is_another_workshop(self):
        workshop = replayed(ORDER, JOURNAL)
        again = replayed(workshop.initial(), workshop.journal())
        before = state_of(workshop)
        again.do(RESET)
        again.do(C_TO_FRONT)
        same(self, state_of(workshop), before)
        workshop.undo()
        same(self, again.journal(), JOURNAL + (RESET, C_TO_FRONT))

    def test_the_empty_journal(self):
        for order in (EMPTY, ORDER, FULL):
            same(self, state_of(replayed(order, ())), state_of(Workshop(order)))

    def test_twenty_commands(self):
        for journal in ((RESET,) * 20, (NEW, C_TO_FRONT) * 10, (("rules", ()),) * 20):
            workshop = replayed(ORDER, journal)
            same(self, workshop.journal(), journal)
            same(self, are_right(ORDER, workshop.records()), True)
            assert_bad_value(self, "journal", replayed, (ORDER, journal + (RESET,)))


class WrongArguments(unittest.TestCase):
    def wrong_journals(self):
        """Values that are no journals."""
        yield from (None, True, 0, "", "reset", [], [RESET], RESET, ("reset",), {RESET: 1}, (RESET,) * 21,
                    (GOOD_RULE,), {})
        for command in WRONG_COMMANDS:
            yield (command,)
            yield (RESET, command)
            yield (RESET,) * 19 + (command,)

    def test_replayed(self):
        assert_bad_values(self, replayed, [("order", ORDER, WRONG_ORDERS),
                                           ("journal", JOURNAL, tuple(self.wrong_journals()))])
        for value in OTHER_VALUES:
            if value != ():
                assert_bad_value(self, "journal", replayed, (ORDER, value))

    def test_are_right(self):
        for records in ((), None, ((RESET, (), (1, 2, 3)),)):
            assert_bad_values(self, lambda order: are_right(order, records), [("order", ORDER, WRONG_ORDERS)])

    def test_what_the_commands_raise(self):
        for order, journal, index, why in ((ORDER, (NOT_THERE,), 0, "anchor"),
                                           (ORDER, JOURNAL + (NOT_THERE,), 0, "anchor"),
                                           (FULL, (C_TO_FRONT, NEW, ("rule", ("after", "a", 1, "m"))), 0, "full"),
                                           (ORDER, (NEW, ("rules", (NEW[1], C_TO_FRONT[1], NOT_THERE[1]))), 2,
                                            "anchor"),
                                           (EMPTY, (RESET, C_TO_FRONT), 0, "anchor"),
                                           (ORDER, (RESET,) * 19 + (NOT_THERE,), 0, "anchor"),
                                           (ORDER, (NEW, RESET, ("rule", ("after", "d", 1, "a"))), 0, "anchor")):
            with self.assertRaises(NotApplicable) as caught:
                replayed(order, journal)
            same(self, (caught.exception.index, caught.exception.why), (index, why))

    def test_bad_value_comes_before_not_applicable(self):
        assert_bad_value(self, "journal", replayed, (ORDER, (NOT_THERE, None)))
        assert_bad_value(self, "journal", replayed, (ORDER, (NOT_THERE,) * 21))
        assert_bad_value(self, "order", replayed, (None, (NOT_THERE,)))
