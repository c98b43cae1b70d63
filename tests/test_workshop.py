"""Points 2, 129 to 131 and 135 to 138: workshops, their commands, and what they tell."""

import random
import unittest

from fewestrules.errors import BadValue, NotApplicable, TooLarge
from fewestrules.fewest import answer_for, distance, shortest_rules
from fewestrules.words import compare
from fewestrules.workshop import Workshop
from tests.helpers import (NAMES, OTHER_VALUES, TWELVE, WRONG_COMMANDS, WRONG_LEVELS, WRONG_ORDERS, WRONG_WORDS,
                           assert_bad_value, assert_bad_values, assert_printed, reckoned_led, reckoned_longest,
                           reckoned_or_none, same, some_command, some_order, some_orders, some_words, steps_from)

ORDER = (("a", "b", "c"), (1, 1))
EMPTY = ((), ())
FULL = (TWELVE, (1, 2, 3, 1, 2, 3, 1, 2, 3, 1, 2))
C_TO_FRONT = ("rule", ("before", "a", 1, "c"))
NEW = ("rule", ("after", "c", 1, "d"))
NOT_THERE = ("rule", ("after", "z", 1, "a"))
RESET = ("reset",)


class Model:
    """What the document tells of a workshop, as a list of the commands and of the order after each of them."""

    def __init__(self, order):
        self.orders = [order]
        self.commands = []

    def after(self, command):
        """The order after the command, or None if it cannot be done."""
        if command[0] == "rule":
            return reckoned_or_none(self.orders[-1], (command[1],))
        if command[0] == "rules":
            return reckoned_or_none(self.orders[-1], command[1])
        return self.orders[0]

    def do(self, command):
        self.orders.append(self.after(command))
        self.commands.append(command)

    def undo(self):
        self.orders.pop()
        return self.commands.pop()


def state_of(workshop):
    """All that a workshop tells but comparisons."""
    return (workshop.initial(), workshop.current(), workshop.distance(), workshop.shortest(), workshop.kept(),
            workshop.journal(), workshop.records())


def some_workshops(seed, many):
    """Workshops with models of them, in which commands were done and undone, with a chance for more."""
    chance = random.Random(seed)
    for turn in range(many):
        order = some_order(chance, NAMES, turn % 13)
        workshop, model = Workshop(order), Model(order)
        for _ in range(chance.randrange(14)):
            if model.commands and chance.random() < 0.25:
                workshop.undo()
                model.undo()
                continue
            command = some_command(chance, model.orders[-1])
            if model.after(command) is not None:
                workshop.do(command)
                model.do(command)
        yield chance, workshop, model


class Told(unittest.TestCase):
    def assert_state(self, workshop, model):
        first, second = model.orders[0], model.orders[-1]
        kept = reckoned_longest(first, second)[0]
        same(self, workshop.initial(), first)
        same(self, workshop.current(), second)
        same(self, workshop.distance(), len(second[0]) - len(kept))
        same(self, workshop.shortest(), shortest_rules(first, second))
        same(self, len(workshop.shortest()), workshop.distance())
        same(self, reckoned_led(first, workshop.shortest()), second)
        same(self, workshop.kept(), kept)
        same(self, workshop.journal(), tuple(model.commands))
        records = tuple((command,) + answer_for(first, order)
                        for command, order in zip(model.commands, model.orders[1:]))
        same(self, workshop.records(), records)

    def test_after_each_command(self):
        done, refused, undone = 0, 0, 0
        chance = random.Random(280)
        for turn in range(70):
            order = some_order(chance, NAMES, turn % 13)
            workshop, model = Workshop(order), Model(order)
            self.assert_state(workshop, model)
            for _ in range(12):
                command = some_command(chance, model.orders[-1])
                if chance.random() < 0.2:
                    same(self, workshop.undo(), model.undo() if model.commands else None)
                    undone += 1
                elif model.after(command) is None:
                    with self.assertRaises(NotApplicable):
                        workshop.do(command)
                    refused += 1
                else:
                    model.do(command)
                    same(self, workshop.do(command),
                         len(model.orders[-1][0]) - len(reckoned_longest(order, model.orders[-1])[0]))
                    done += 1
                self.assert_state(workshop, model)
        self.assertGreater(min(done, refused, undone), 50)

    def test_a_new_workshop(self):
        for order in [EMPTY, ORDER, FULL, (("a",), ())] + list(some_orders(286, 24)):
            workshop = Workshop(order)
            same(self, state_of(workshop), (order, order, 0, (), order[0], (), ()))
            same(self, workshop.undo(), None)

    def test_no_letters(self):
        workshop = Workshop(EMPTY)
        for command in (("rules", ()), RESET, ("rules", ())):
            same(self, workshop.do(command), 0)
        same(self, state_of(workshop), (EMPTY, EMPTY, 0, (), (), (("rules", ()), RESET, ("rules", ())),
                                        ((("rules", ()), (), ()), (RESET, (), ()), (("rules", ()), (), ()))))
        with self.assertRaises(NotApplicable):
            workshop.do(C_TO_FRONT)
        same(self, workshop.compare((), (), 3), 0)

    def test_compare(self):
        told = set()
        for chance, workshop, model in some_workshops(281, 80):
            words = some_words(chance, model.orders[-1], 5)
            for one in words:
                for other in words:
                    for level in (1, 2, 3):
                        wanted = compare(model.orders[-1], one, other, level)
                        same(self, workshop.compare(one, other, level), wanted)
                        told.add(wanted)
        self.assertEqual(told, {-1, 0, 1})

    def test_compare_with_letters_that_came_and_went(self):
        workshop = Workshop(ORDER)
        assert_bad_value(self, "first", workshop.compare, (("d",), ("a",), 1))
        workshop.do(NEW)
        same(self, workshop.compare(("d",), ("a",), 1), 1)
        workshop.do(C_TO_FRONT)
        same(self, workshop.compare(("c",), ("a",), 1), -1)
        workshop.undo()
        same(self, workshop.compare(("c",), ("a",), 1), 1)
        workshop.do(RESET)
        assert_bad_value(self, "second", workshop.compare, (("a",), ("d",), 1))


class Commands(unittest.TestCase):
    def test_no_fewer_rules_would_have_done(self):
        chance = random.Random(282)
        for letters in (("a", "b"), ("a", "b", "c")):
            for turn in range(8):
                order = some_order(chance, letters, len(letters))
                steps = steps_from(order, letters)
                workshop = Workshop(order)
                for _ in range(10):
                    command = some_command(chance, workshop.current(), letters)
                    try:
                        same(self, workshop.do(command), steps[workshop.current()])
                    except NotApplicable:
                        self.assertIn(command[0], ("rule", "rules"))
                    same(self, len(workshop.shortest()), steps[workshop.current()])

    def test_each_kind(self):
        workshop = Workshop(ORDER)
        same(self, workshop.do(C_TO_FRONT), 1)
        same(self, workshop.current(), (("c", "a", "b"), (1, 1)))
        same(self, workshop.do(("rules", (("after", "b", 2, "d"), ("before", "c", 3, "b")))), 3)
        same(self, workshop.current(), (("b", "c", "a", "d"), (3, 1, 1)))
        same(self, workshop.do(RESET), 0)
        same(self, workshop.current(), ORDER)
        same(self, workshop.do(("rules", ())), 0)
        same(self, len(workshop.journal()), 4)

    def test_undoing_down_to_the_empty_journal_and_once_more(self):
        for chance, workshop, model in some_workshops(283, 80):
            while model.commands:
                same(self, workshop.undo(), model.undo())
                same(self, workshop.current(), model.orders[-1])
                same(self, workshop.journal(), tuple(model.commands))
            for _ in range(2):
                same(self, workshop.undo(), None)
                same(self, state_of(workshop), state_of(Workshop(model.orders[0])))

    def test_undoing_a_reset(self):
        workshop = Workshop(ORDER)
        workshop.do(C_TO_FRONT)
        workshop.do(NEW)
        before = state_of(workshop)
        same(self, workshop.do(RESET), 0)
        same(self, workshop.undo(), RESET)
        same(self, state_of(workshop), before)

    def test_undone_commands_can_be_done_again(self):
        workshop = Workshop(ORDER)
        for _ in range(30):
            same(self, workshop.do(NEW), 1)
            same(self, workshop.undo(), NEW)
        same(self, workshop.journal(), ())

    def test_how_the_distance_changes(self):
        new, known = 0, 0
        for chance, workshop, model in some_workshops(284, 200):
            before = workshop.distance()
            command = some_command(chance, model.orders[-1])
            if command[0] == "rule" and model.after(command) is not None:
                after = workshop.do(command)
                if command[1][3] in model.orders[-1][0]:
                    self.assertLessEqual(abs(after - before), 1)
                    known += 1
                else:
                    same(self, after, before + 1)
                    new += 1
            same(self, workshop.do(RESET), 0)
            same(self, workshop.distance(), 0)
        self.assertGreater(min(new, known), 20)

    def test_what_was_handed_in_and_returned_stays(self):
        for chance, workshop, model in some_workshops(285, 40):
            order = model.orders[0]
            copied = repr(order)
            told = state_of(workshop)
            kept = repr(told)
            for _ in range(3):
                command = some_command(chance, model.orders[-1])
                if model.after(command) is not None:
                    workshop.do(command)
                    model.do(command)
            workshop.undo()
            workshop.do(RESET)
            same(self, repr(order), copied)
            same(self, repr(told), kept)

    def test_two_workshops_have_nothing_in_common(self):
        one, other = Workshop(ORDER), Workshop(ORDER)
        one.do(C_TO_FRONT)
        same(self, state_of(other), state_of(Workshop(ORDER)))
        other.do(NEW)
        same(self, (one.journal(), other.journal()), ((C_TO_FRONT,), (NEW,)))


class WrongArguments(unittest.TestCase):
    def test_orders(self):
        assert_bad_values(self, Workshop, [("order", ORDER, WRONG_ORDERS)])

    def test_commands(self):
        workshop = Workshop(ORDER)
        workshop.do(NEW)
        before = state_of(workshop)
        for value in WRONG_COMMANDS + OTHER_VALUES:
            assert_bad_value(self, "command", workshop.do, (value,))
            same(self, state_of(workshop), before)

    def test_words_and_levels(self):
        for changed in (False, True):
            workshop = Workshop(ORDER)
            if changed:
                workshop.do(C_TO_FRONT)
            assert_bad_values(self, workshop.compare, [("first", ("a",), WRONG_WORDS), ("second", ("c",), WRONG_WORDS),
                                                       ("level", 1, WRONG_LEVELS)])

    def assert_not_applicable(self, order, command, index, why):
        workshop = Workshop(order)
        if order[0]:
            workshop.do(("rules", ()))
        before = state_of(workshop)
        with self.assertRaises(NotApplicable) as caught:
            workshop.do(command)
        same(self, (caught.exception.index, caught.exception.why), (index, why))
        same(self, state_of(workshop), before)

    def test_commands_that_cannot_be_done(self):
        self.assert_not_applicable(ORDER, NOT_THERE, 0, "anchor")
        self.assert_not_applicable(FULL, ("rule", ("after", "a", 1, "m")), 0, "full")
        self.assert_not_applicable(FULL, ("rule", ("after", "n", 1, "m")), 0, "anchor")
        self.assert_not_applicable(EMPTY, C_TO_FRONT, 0, "anchor")
        self.assert_not_applicable(ORDER, ("rules", (NEW[1], C_TO_FRONT[1], NOT_THERE[1])), 2, "anchor")
        self.assert_not_applicable(FULL, ("rules", (C_TO_FRONT[1], ("after", "a", 1, "m"))), 1, "full")
        self.assert_not_applicable(ORDER, ("rules", (C_TO_FRONT[1],) * 19 + (NOT_THERE[1],)), 19, "anchor")

    def test_the_twentieth_command_and_the_twenty_first(self):
        for command in (C_TO_FRONT, NEW, ("rules", (NEW[1],)), RESET, ("rules", ())):
            workshop = Workshop(ORDER)
            for at in range(20):
                workshop.do(command)
                same(self, len(workshop.journal()), at + 1)
            before = state_of(workshop)
            for more in (C_TO_FRONT, RESET, ("rules", ())):
                with self.assertRaises(TooLarge) as caught:
                    workshop.do(more)
                same(self, caught.exception.what, "commands")
                same(self, state_of(workshop), before)
            with self.assertRaises(NotApplicable):
                workshop.do(NOT_THERE)
            with self.assertRaises(BadValue) as caught:
                workshop.do(None)
            same(self, caught.exception.name, "command")
            same(self, state_of(workshop), before)
            same(self, workshop.undo(), command)
            workshop.do(RESET)
            same(self, workshop.journal(), (command,) * 19 + (RESET,))

    def test_not_applicable_comes_before_too_many_commands(self):
        workshop = Workshop(FULL)
        for _ in range(20):
            workshop.do(RESET)
        with self.assertRaises(NotApplicable) as caught:
            workshop.do(("rules", (C_TO_FRONT[1], ("after", "a", 1, "m"))))
        same(self, (caught.exception.index, caught.exception.why), (1, "full"))


class Printed(unittest.TestCase):
    def test_point_138(self):
        workshop = Workshop(ORDER)
        workshop.do(("rule", ("after", "c", 2, "a")))
        workshop.do(("rules", (("before", "b", 1, "a"), ("after", "b", 3, "d"))))
        same(self, distance(ORDER, workshop.current()), 1)

    def test_interface(self):
        assert_printed(self, '''
>>> from fewestrules.journals import are_right, replayed
>>> from fewestrules.workshop import Workshop
>>> workshop = Workshop((("a", "b", "c"), (1, 1)))
>>> workshop.do(("rule", ("after", "c", 2, "a"))), workshop.current()
(1, (('b', 'c', 'a'), (1, 2)))
>>> workshop.do(("rules", (("before", "b", 1, "a"), ("after", "b", 3, "d")))), workshop.current()
(1, (('a', 'b', 'd', 'c'), (1, 3, 1)))
>>> workshop.shortest(), workshop.kept(), workshop.compare(("a",), ("d",), 1)
((('after', 'b', 3, 'd'),), ('a', 'b', 'c'), -1)
>>> workshop.records()[0]
(('rule', ('after', 'c', 2, 'a')), (('after', 'c', 2, 'a'),), (1, 2, 1))
>>> are_right(workshop.initial(), workshop.records()), workshop.undo()[0], workshop.distance()
(True, 'rules', 1)
>>> replayed(workshop.initial(), workshop.journal()).current() == workshop.current()
True
''')
