"""Points 2 and 124 to 128: texts that are written, and read again."""

import random
import re
import unittest

from fewestrules.errors import BadValue
from fewestrules.reading import read_order, read_rules
from fewestrules.rules import led
from fewestrules.writing import order_text, rules_text
from tests.helpers import (GOOD_RULE, NAMES, TWELVE, WRONG_ORDERS, WRONG_RULE_LISTS, assert_bad_value,
                           assert_bad_values, orders_within, reckoned_led, same, some_list, some_orders, some_rules)

EMPTY = ((), ())
SIGNS = {1: "<", 2: "<<", 3: "<<<"}
LONG = tuple(f"abcdefghij{at}" for at in range(10, 24))


def reckoned_order_text(order):
    """Point 124, for orders: letters and signs with one space between them."""
    text = order[0][0] if order[0] else ""
    for strength, letter in zip(order[1], order[0][1:]):
        text += " " + SIGNS[strength] + " " + letter
    return text


def reckoned_rules_text(rules):
    """Point 124, for rule lists."""
    texts = []
    for at, (side, anchor, strength, letter) in enumerate(rules):
        if at and side == "after" and anchor == rules[at - 1][3]:
            texts[-1] += f" {SIGNS[strength]} {letter}"
        elif side == "after":
            texts.append(f"& {anchor} {SIGNS[strength]} {letter}")
        else:
            texts.append(f"& [before {strength}] {anchor} {SIGNS[strength]} {letter}")
    return " ".join(texts)


def chained(chance, many, letters):
    """So many rules, of which many are anchored at the letter of the one before."""
    rules = []
    for _ in range(many):
        anchor = rules[-1][3] if rules and chance.random() < 0.6 else chance.choice(letters)
        letter = chance.choice([letter for letter in letters if letter != anchor])
        rules.append((chance.choice(("after", "after", "before")), anchor, chance.choice((1, 2, 3)), letter))
    return tuple(rules)


def some_rule_lists(seed, many):
    """Rule lists of 0 to 20 rules: in long chains, in short ones, with long letters, and with the letter before."""
    chance = random.Random(seed)
    for turn in range(many):
        length = turn // 4 % 21
        if turn % 4 == 0:
            yield some_list(chance, length)
        else:
            yield chained(chance, length, (NAMES[:3], ("before", "b", "after"), LONG)[turn % 4 - 1])


def spread(chance, text):
    """The text with other blanks between its tokens, and before and behind them."""
    found = " " * chance.randrange(3)
    tokens = re.findall("[a-z][a-z0-9]*|[0-9]+|<+|[^ ]", text)
    for token, behind in zip(tokens, tokens[1:] + [" "]):
        needed = token[-1].isalnum() and behind[0].isalnum() or token[-1] == behind[0] == "<"
        found += token + " " * chance.randrange(1 if needed else 0, 4)
    return found


class Orders(unittest.TestCase):
    def test_written_with_one_space(self):
        for order in list(orders_within(("a", "b", "c"))) + list(some_orders(260, 60)):
            same(self, order_text(order), reckoned_order_text(order))

    def test_read_again(self):
        for order in list(orders_within(("a", "b", "c"))) + list(some_orders(261, 60)):
            same(self, read_order(order_text(order)), order)

    def test_no_letters_one_and_twelve(self):
        for order, text in ((EMPTY, ""), ((("a",), ()), "a"), ((("before",), ()), "before"),
                            ((("b", "a"), (3,)), "b <<< a"),
                            ((TWELVE, (1, 2, 3) * 3 + (2, 1)),
                             "a < b << c <<< d < e << f <<< g < h << i <<< j << k < l")):
            same(self, order_text(order), text)
            same(self, read_order(text), order)

    def test_the_longest_text(self):
        order = (LONG[:12], (3,) * 11)
        text = order_text(order)
        same(self, len(text), 12 * 12 + 11 * 5)
        same(self, read_order(text), order)

    def test_other_layouts_of_the_blanks(self):
        chance = random.Random(262)
        for order in some_orders(263, 60):
            text = order_text(order)
            for _ in range(3):
                same(self, read_order(spread(chance, text)), order)
            same(self, read_order(text.replace(" ", "")), order)


class RuleLists(unittest.TestCase):
    def test_written_in_chains(self):
        for rules in some_rule_lists(264, 336):
            same(self, rules_text(rules), reckoned_rules_text(rules))

    def test_read_again(self):
        longer = 0
        for rules in some_rule_lists(265, 336):
            text = rules_text(rules)
            if len(text) <= 400:
                same(self, read_rules(text), rules)
            else:
                longer += 1
                assert_bad_value(self, "text", read_rules, (text,))
        self.assertGreater(longer, 20)

    def test_as_few_chains_as_possible(self):
        chance = random.Random(266)
        for rules in some_rule_lists(267, 168):
            text = rules_text(rules)
            breaks = [one for one, other in zip(rules, rules[1:]) if other[0] == "before" or other[1] != one[3]]
            same(self, text.count("&"), len(breaks) + min(len(rules), 1))
            if len(text) <= 300:
                same(self, read_rules(spread(chance, text)), rules)

    def test_no_rules_one_and_twenty(self):
        for rules, text in (((), ""), ((("after", "a", 1, "b"),), "& a < b"),
                            ((("before", "a", 3, "b"),), "& [before 3] a <<< b"),
                            ((("before", "a", 3, "b"), ("before", "b", 1, "c")),
                             "& [before 3] a <<< b & [before 1] b < c"),
                            ((("after", "a", 2, "b"), ("after", "a", 2, "c")), "& a << b & a << c"),
                            ((("after", "a", 2, "b"), ("before", "b", 2, "c"), ("after", "c", 1, "a")),
                             "& a << b & [before 2] b << c < a"),
                            ((("after", "a", 1, "b"), ("after", "b", 1, "a")) * 10, "& a" + " < b < a" * 10),
                            ((("after", "a", 1, "b"),) * 20, " ".join(["& a < b"] * 20))):
            same(self, rules_text(rules), text)
            same(self, read_rules(text), rules)

    def test_the_first_rule_begins_a_chain_whatever_its_anchor_is(self):
        for anchor in "abcdefghijklmnopqrstuvwxyz":
            same(self, rules_text((("after", anchor, 2, "a1"),)), f"& {anchor} << a1")

    def test_texts_longer_than_four_hundred_characters(self):
        rules = tuple(("before", "a", 3, f"abcdefghij{at}") for at in range(10, 30))
        text = rules_text(rules)
        same(self, len(text), 20 * len("& [before 3] a <<< abcdefghij10") + 19)
        same(self, text, reckoned_rules_text(rules))
        with self.assertRaises(BadValue) as caught:
            read_rules(text)
        same(self, caught.exception.name, "text")

    def test_other_layouts_of_the_blanks(self):
        chance = random.Random(268)
        for rules in some_rule_lists(269, 168):
            text = rules_text(rules)
            if len(text) <= 130:
                for _ in range(3):
                    same(self, read_rules(spread(chance, text)), rules)


class WhatMakesAnOrder(unittest.TestCase):
    def test_small_orders(self):
        for order in orders_within(("a", "b", "c")):
            if len(order[0]) >= 2:
                self.assert_made(order)

    def test_large_orders(self):
        for order in some_orders(270, 66, 2, 12):
            self.assert_made(order)
        self.assert_made((LONG[:12], (3, 2, 1) * 3 + (1, 3)))

    def assert_made(self, order):
        rules = read_rules("& " + order_text(order))
        same(self, len(rules), len(order[0]) - 1)
        same(self, led((order[0][:1], ()), rules), order)
        same(self, reckoned_led((order[0][:1], ()), rules), order)


class WrongArguments(unittest.TestCase):
    def test_each_function(self):
        assert_bad_values(self, order_text, [("order", EMPTY, WRONG_ORDERS)])
        assert_bad_values(self, rules_text, [("rules", (), WRONG_RULE_LISTS)])
        assert_bad_value(self, "rules", rules_text, ((GOOD_RULE,) * 21,))
        same(self, rules_text((GOOD_RULE,) * 20), " ".join(["& a < x"] * 20))


class Sentences(unittest.TestCase):
    def test_rules_do_the_same_after_reading_again(self):
        chance = random.Random(271)
        for order in some_orders(272, 48):
            rules = some_rules(chance, order, chance.randrange(12))
            same(self, led(order, read_rules(rules_text(rules))), reckoned_led(order, rules))
