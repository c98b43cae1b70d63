"""Points 2, 119 to 123, 125, 127 and 128: grammars, what can come, and orders and rule lists that are read."""

import functools
import itertools
import random
import unittest

from fewestrules.errors import TextError
from fewestrules.orders import is_order
from fewestrules.reading import next_tokens, read_order, read_rules
from fewestrules.rules import is_rule_list
from tests.helpers import (OTHER_VALUES, THIRTEEN, TWELVE, WRONG_TEXTS, assert_bad_value, assert_bad_values,
                           assert_printed, assert_text_error, same)

NO_TOKEN = "no token begins here"
RELATIONS = ("<", "<<", "<<<")
# The words of what can come, in the sequence of point 120, each with a token that they tell.
WORDS = {"a name": "x7", "before": "before", "a number": "12", '"&"': "&", '"["': "[", '"]"': "]", '"<"': "<",
         '"<<"': "<<", '"<<<"': "<<<", "the end": None}
SIGNS = ('"<"', '"<<"', '"<<<"')
TOO_MANY_LETTERS = "an order has at most 12 letters"
TWICE = "this letter stands already"
NO_STRENGTH = "a strength is from 1 to 3"
OTHER_STRENGTH = "the brackets tell another strength"
TOO_MANY_RULES = "there are at most 20 rules"
OWN_ANCHOR = "a letter is not its own anchor"


def order_texts(names, most):
    """The rows of tokens that follow the grammar of orders, with up to so many names."""
    rows = [(name,) for name in names]
    yield ()
    for _ in range(most):
        yield from rows
        rows = [row + (sign, name) for row in rows for sign in RELATIONS for name in names]


def chains(names, most):
    """The rows of tokens that follow the grammar of chains, with up to so many relations."""
    for begin in (("&",), ("&", "[", "before", "12", "]")):
        rows = [begin + (name,) for name in names]
        for _ in range(most):
            rows = [row + (sign, name) for row in rows for sign in RELATIONS for name in names]
            yield from rows


@functools.lru_cache(None)
def beginnings(kind):
    """All beginnings of texts of this kind as rows of tokens, as far as they are gone through, and all whole texts."""
    names = ("x7", "before")
    if kind == "order":
        whole = set(order_texts(names, 4))
    else:
        rows = list(chains(names, 2))
        whole = {(), *rows}
        whole |= {row + other for row in chains(names, 1) for other in rows}
    return {row[:many] for row in whole for many in range(len(row) + 1)}, whole


def reckoned_next(kind, row):
    """The words of what can come behind the tokens, in their sequence; the row stands well within the texts."""
    begun, whole = beginnings(kind)
    found = []
    for words, token in WORDS.items():
        if token is None:
            comes = row in whole
        else:
            comes = row + (token,) in begun
        if comes and not (words == "before" and "a name" in found):
            found.append(words)
    return found


def tried(kind):
    """Rows of tokens that begin a text of this kind, behind which all that can come is gone through."""
    rows = sorted(beginnings(kind)[0])
    if kind == "order":
        return [row for row in rows if len(row) <= 5]
    rows = [row for row in rows if signs_of_last_chain(row) < 2]
    # Behind a whole second chain a third one could begin, which is not gone through.
    second = [row for row in rows if row.count("&") == 2 and row not in beginnings(kind)[1]]
    return [row for row in rows if row.count("&") < 2] + second[::3]


def signs_of_last_chain(row):
    """The number of relations in the last chain."""
    many = 0
    for token in row:
        many = 0 if token == "&" else many + (token[0] == "<")
    return many


def expected(words):
    """The words of the problem where these can come."""
    if len(words) == 1:
        return f"expected {words[0]}"
    return "expected " + ", ".join(words[:-1]) + " or " + words[-1]


READERS = {"order": read_order, "rules": read_rules}


class WhatCanCome(unittest.TestCase):
    def test_behind_every_beginning(self):
        kinds = set()
        for kind in READERS:
            for row in tried(kind):
                wanted = reckoned_next(kind, row)
                same(self, next_tokens(" ".join(row), kind), wanted)
                kinds.add((kind, tuple(wanted)))
        self.assertEqual(len(kinds), 11)

    def test_as_the_grammars_say(self):
        for text, wanted in (("", ["a name", "the end"]), ("a", list(SIGNS) + ["the end"]), ("a <", ["a name"]),
                             ("a << b", list(SIGNS) + ["the end"]), ("before <<<", ["a name"]),
                             ("before", list(SIGNS) + ["the end"]), ("a < before", list(SIGNS) + ["the end"])):
            same(self, next_tokens(text, "order"), wanted)
        for text, wanted in (("", ['"&"', "the end"]), ("&", ["a name", '"["']), ("&[", ["before"]),
                             ("& [before", ["a number"]), ("& [ before 2", ['"]"']), ("& [before 2]", ["a name"]),
                             ("& [before 2] a", list(SIGNS)), ("& a", list(SIGNS)), ("& before", list(SIGNS)),
                             ("& a <<", ["a name"]), ("& a < b", ['"&"'] + list(SIGNS) + ["the end"]),
                             ("& a < b &", ["a name", '"["']), ("& [before 2] before << before & [", ["before"]),
                             ("& a < before", ['"&"'] + list(SIGNS) + ["the end"])):
            same(self, next_tokens(text, "rules"), wanted)

    def test_long_texts(self):
        same(self, next_tokens("a" + "<a" * 199, "order"), list(SIGNS) + ["the end"])
        same(self, next_tokens("&a" + "<b" * 199, "rules"), ['"&"'] + list(SIGNS) + ["the end"])
        same(self, next_tokens(" " * 400, "rules"), ['"&"', "the end"])

    def test_only_the_grammar_counts(self):
        # What the tokens mean is asked by reading alone.
        same(self, next_tokens(" < ".join(THIRTEEN), "order"), list(SIGNS) + ["the end"])
        same(self, next_tokens("a < a", "order"), list(SIGNS) + ["the end"])
        same(self, next_tokens("& [before 999999", "rules"), ['"]"'])
        same(self, next_tokens("& [before 2] a < a", "rules"), ['"&"'] + list(SIGNS) + ["the end"])
        same(self, next_tokens("& a" + " < a" * 21, "rules"), ['"&"'] + list(SIGNS) + ["the end"])

    def test_a_changed_list_changes_no_later_answer(self):
        for text, kind in (("a", "order"), ("", "order"), ("&", "rules"), ("& [", "rules"), ("& a < b", "rules")):
            found = next_tokens(text, kind)
            wanted = list(found)
            found.clear()
            same(self, next_tokens(text, kind), wanted)
            self.assertIsNot(next_tokens(text, kind), next_tokens(text, kind))


class WhatCannotCome(unittest.TestCase):
    def test_every_token_behind_every_beginning(self):
        told = set()
        for kind, read in READERS.items():
            for row in tried(kind):
                wanted = reckoned_next(kind, row)
                text = " ".join(row)
                column = len(text) + 2 if row else 1
                for words, token in WORDS.items():
                    if words in wanted or words == "before" and "a name" in wanted:
                        continue
                    told.add((kind, expected(wanted)))
                    if token is None:
                        assert_text_error(self, read, (text,), len(text) + 1, expected(wanted))
                        assert_text_error(self, read, (text + "  ",), len(text) + 3, expected(wanted))
                        continue
                    for more in ("", " ", f" {token}", " & < ["):
                        given = f"{text} {token}{more}" if row else token + more
                        assert_text_error(self, read, (given,), column, expected(wanted))
                        assert_text_error(self, next_tokens, (given, kind), column, expected(wanted))
        self.assertEqual(len(told), 11)

    def test_one_two_and_more_that_can_come(self):
        for text, column, words in (("a <", 4, "expected a name"), ("<", 1, "expected a name or the end"),
                                    ("a b", 3, 'expected "<", "<<", "<<<" or the end'),
                                    ("a <<<< b", 6, "expected a name"),
                                    ("a & b", 3, 'expected "<", "<<", "<<<" or the end'),
                                    ("7", 1, "expected a name or the end"), ("a < 7", 5, "expected a name")):
            assert_text_error(self, read_order, (text,), column, words)
        for text, column, words in (("a", 1, 'expected "&" or the end'), ("& &", 3, 'expected a name or "["'),
                                    ("& [beforehand 1] a < b", 4, "expected before"),
                                    ("& [2] a < b", 4, "expected before"),
                                    ("& [before] a < b", 10, "expected a number"),
                                    ("& [before a < b", 11, "expected a number"),
                                    ("& [before 2 a < b", 13, 'expected "]"'), ("& [before 2]", 13, "expected a name"),
                                    ("& a", 4, 'expected "<", "<<" or "<<<"'),
                                    ("& a & b < c", 5, 'expected "<", "<<" or "<<<"'),
                                    ("& a < b c", 9, 'expected "&", "<", "<<", "<<<" or the end'),
                                    ("& before 2", 10, 'expected "<", "<<" or "<<<"'), ("& [", 4, "expected before")):
            assert_text_error(self, read_rules, (text,), column, words)

    def test_what_can_come_alone_is_no_whole_text(self):
        for kind, read in READERS.items():
            begun, whole = beginnings(kind)
            for row in tried(kind):
                text = " ".join(row)
                if row in whole:
                    continue
                self.assertTrue(next_tokens(text, kind))
                assert_text_error(self, read, (text,), len(text) + 1, expected(reckoned_next(kind, row)))

    def test_the_end_in_long_texts(self):
        assert_text_error(self, read_order, ("a<" * 200,), 401, "expected a name")
        assert_text_error(self, read_rules, (" " * 399 + "&",), 401, 'expected a name or "["')

    def test_problems_of_tokens_come_first(self):
        for text, column, words in (("< a ?", 5, NO_TOKEN), ("a b A", 5, NO_TOKEN),
                                    ("7 " + "b" * 13, 3, "a name has at most 12 characters"),
                                    ("& & 1234567", 5, "a number has at most 6 digits"), ("& [ 1 ~", 7, NO_TOKEN)):
            for function, given in ((read_order, (text,)), (read_rules, (text,)), (next_tokens, (text, "order")),
                                    (next_tokens, (text, "rules"))):
                assert_text_error(self, function, given, column, words)
        assert_text_error(self, read_order, ("a < a -",), 7, NO_TOKEN)
        assert_text_error(self, read_rules, ("& [before 4] a < a -",), 20, NO_TOKEN)

    def test_the_grammar_comes_before_what_the_tokens_mean(self):
        assert_text_error(self, read_order, ("a < a <",), 8, "expected a name")
        assert_text_error(self, read_order, (" < ".join(THIRTEEN) + " a",), 51, 'expected "<", "<<", "<<<" or the end')
        assert_text_error(self, read_rules, ("& [before 4] a < a <",), 21, "expected a name")
        assert_text_error(self, read_rules, ("& a" + " < b < a" * 10 + " < b &",), 90, 'expected a name or "["')


class Orders(unittest.TestCase):
    def test_letters_and_strengths(self):
        same(self, read_order("a < ae<<b <<< c"), (("a", "ae", "b", "c"), (1, 2, 3)))
        same(self, read_order("before<<<before2"), (("before", "before2"), (3,)))
        same(self, read_order("b < a"), (("b", "a"), (1,)))

    def test_all_signs(self):
        for signs in itertools.product(RELATIONS, repeat=3):
            text = "d" + "".join(f"{sign}{name}" for sign, name in zip(signs, "bca"))
            same(self, read_order(text), (("d", "b", "c", "a"), tuple(len(sign) for sign in signs)))

    def test_no_letters_and_one(self):
        for text in ("", " ", " " * 400):
            same(self, read_order(text), ((), ()))
        for text in ("a", "  a", "a  "):
            same(self, read_order(text), (("a",), ()))
        same(self, read_order("abcdefghij12"), (("abcdefghij12",), ()))

    def test_the_twelfth_letter_and_the_thirteenth(self):
        same(self, read_order(" < ".join(TWELVE)), (TWELVE, (1,) * 11))
        same(self, read_order("<<<".join(TWELVE)), (TWELVE, (3,) * 11))
        assert_text_error(self, read_order, (" < ".join(THIRTEEN),), 49, TOO_MANY_LETTERS)
        assert_text_error(self, read_order, (" < ".join(THIRTEEN) + " < n < a",), 49, TOO_MANY_LETTERS)
        # The thirteenth name stands already, too.
        for letter in ("a", "l"):
            assert_text_error(self, read_order, (" < ".join(TWELVE) + f" < {letter}",), 49, TOO_MANY_LETTERS)

    def test_a_letter_twice(self):
        assert_text_error(self, read_order, ("a < a",), 5, TWICE)
        assert_text_error(self, read_order, (" a<b <<  a << b",), 10, TWICE)
        assert_text_error(self, read_order, ("b < a <<< c < a < c",), 15, TWICE)
        for at in range(11):
            row = TWELVE[:11] + TWELVE[at:at + 1]
            assert_text_error(self, read_order, (" < ".join(row),), 45, TWICE)

    def test_a_letter_twice_ahead_of_the_thirteenth(self):
        for at in range(1, 12):
            row = TWELVE[:at] + TWELVE[:1] + TWELVE[at:] + ("m", "n")
            assert_text_error(self, read_order, (" < ".join(row),), 4 * at + 1, TWICE)

    def test_what_is_read_is_an_order(self):
        for text in ("", "a", "a<b", "z9 << a", " <<< ".join(TWELVE)):
            self.assertTrue(is_order(read_order(text)))


class RuleLists(unittest.TestCase):
    def test_chains(self):
        same(self, read_rules("& z < ae << oe & [before 2] a << b"),
             (("after", "z", 1, "ae"), ("after", "ae", 2, "oe"), ("before", "a", 2, "b")))
        same(self, read_rules("& a <<< b"), (("after", "a", 3, "b"),))
        same(self, read_rules("& a < b & a < b"), (("after", "a", 1, "b"),) * 2)
        same(self, read_rules("&a<b<a<<b"), (("after", "a", 1, "b"), ("after", "b", 1, "a"), ("after", "a", 2, "b")))

    def test_chains_with_brackets(self):
        for strength, sign in enumerate(RELATIONS, 1):
            same(self, read_rules(f"& [before {strength}] a {sign} b"), (("before", "a", strength, "b"),))
            for later in RELATIONS:
                same(self, read_rules(f"&[before {strength}]a{sign}b{later}c"),
                     (("before", "a", strength, "b"), ("after", "b", len(later), "c")))
        same(self, read_rules("& [before 1] a < b & c << d & [before 3] e <<< f < g"),
             (("before", "a", 1, "b"), ("after", "c", 2, "d"), ("before", "e", 3, "f"), ("after", "f", 1, "g")))
        same(self, read_rules("& [before 2] before << b < before & before <<< b"),
             (("before", "before", 2, "b"), ("after", "b", 1, "before"), ("after", "before", 3, "b")))

    def test_no_rules(self):
        for text in ("", " ", " " * 400):
            same(self, read_rules(text), ())

    def test_the_number_in_brackets(self):
        for number in ("0", "4", "5", "10", "13", "22", "100", "999999", "000000", "000004"):
            assert_text_error(self, read_rules, (f"& [before {number}] a < b",), 11, NO_STRENGTH)
            # Its sign is another one than that of any number, but the number comes first.
            assert_text_error(self, read_rules, (f"& a < b & [before {number}] a << a",), 19, NO_STRENGTH)
        # A number is told by its value.
        same(self, read_rules("& [before 02] a << b"), (("before", "a", 2, "b"),))
        same(self, read_rules("& [before 000003] a <<< b"), (("before", "a", 3, "b"),))

    def test_another_strength_than_that_of_the_brackets(self):
        for strength in (1, 2, 3):
            for sign in RELATIONS:
                text = f"& [before {strength}] a {sign} b"
                if len(sign) != strength:
                    assert_text_error(self, read_rules, (text,), 16, OTHER_STRENGTH)
                    assert_text_error(self, read_rules, (f"& x < y {text} < c",), 24, OTHER_STRENGTH)
                    # It stands ahead of a letter that is its own anchor.
                    assert_text_error(self, read_rules, (f"& [before {strength}] a {sign} a",), 16, OTHER_STRENGTH)
        # Only the first sign is asked.
        same(self, read_rules("& [before 2] a << b < c <<< d")[1:], (("after", "b", 1, "c"), ("after", "c", 3, "d")))

    def test_a_letter_that_is_its_own_anchor(self):
        for text, column in (("& a < a", 7), ("& a < b << b", 12), ("& [before 2] a << a", 19),
                             ("& a < b & b < a < a", 19),
                             ("& before < before", 12), ("& [before 1] a < b < b", 22)):
            assert_text_error(self, read_rules, (text,), column, OWN_ANCHOR)
        same(self, read_rules("& a < b < a"), (("after", "a", 1, "b"), ("after", "b", 1, "a")))

    def test_the_twentieth_rule_and_the_twenty_first(self):
        chain = "& a" + " < b < a" * 10
        same(self, len(read_rules(chain)), 20)
        apart = " ".join(["& a << b"] * 20)
        same(self, read_rules(apart), (("after", "a", 2, "b"),) * 20)
        assert_text_error(self, read_rules, (chain + " < c",), len(chain) + 4, TOO_MANY_RULES)
        assert_text_error(self, read_rules, (chain + " & c < d",), len(chain) + 8, TOO_MANY_RULES)
        assert_text_error(self, read_rules, (apart + " & [before 1] c < d < e",), len(apart) + 19, TOO_MANY_RULES)
        # The twenty-first rule's letter is its own anchor, too.
        assert_text_error(self, read_rules, (chain + " < a",), len(chain) + 4, TOO_MANY_RULES)
        assert_text_error(self, read_rules, (chain + " & c < c",), len(chain) + 8, TOO_MANY_RULES)

    def test_problems_ahead_of_the_twenty_first_rule(self):
        chain = "& a" + " < b < a" * 10
        assert_text_error(self, read_rules, (chain + " & [before 7] c < d",), len(chain) + 12, NO_STRENGTH)
        assert_text_error(self, read_rules, (chain + " & [before 1] c << d",), len(chain) + 17, OTHER_STRENGTH)
        assert_text_error(self, read_rules, ("& a < a" + " < b < a" * 10,), 7, OWN_ANCHOR)

    def test_the_first_of_two_problems(self):
        parts = (("& [before 9] a < b", 10, NO_STRENGTH), ("& [before 3] a < b", 15, OTHER_STRENGTH),
                 ("& c < c", 6, OWN_ANCHOR), ("& c < d < d", 10, OWN_ANCHOR), ("& [before 1] a < a", 17, OWN_ANCHOR))
        for (one, column, words), (other, _, _) in itertools.product(parts, repeat=2):
            assert_text_error(self, read_rules, (f"{one} {other}",), column + 1, words)
            assert_text_error(self, read_rules, (f"& x < y {one} {other}",), column + 9, words)

    def test_what_is_read_is_a_rule_list(self):
        for text in ("", "& a < b", "& [before 1] a < b < c", "& a" + " < b < a" * 10):
            self.assertTrue(is_rule_list(read_rules(text)))


class Blanks(unittest.TestCase):
    def test_they_change_nothing_between_tokens(self):
        chance = random.Random(250)
        for kind, read in READERS.items():
            for row in chance.sample(sorted(beginnings(kind)[1]), 120):
                row = tuple(chance.choice("123") if token == "12" else token for token in row)
                row = tuple(chance.choice(("a", "b", "c", "before")) if token == "x7" else token for token in row)
                wanted = self.told(read, " ".join(row))
                for _ in range(3):
                    text = " " * chance.randrange(4)
                    for at, token in enumerate(row):
                        alike = row[at + 1:at + 2] and token[-1] == "<" and row[at + 1][0] == "<"
                        words = row[at + 1:at + 2] and token[-1].isalnum() and row[at + 1][0].isalnum()
                        text += token + " " * chance.randrange(1 if alike or words else 0, 4)
                    same(self, self.told(read, text), wanted)

    def told(self, read, text):
        """What is read, or the words of the problem."""
        try:
            return read(text)
        except TextError as fault:
            return fault.words

    def test_columns(self):
        for many in range(5):
            blanks = " " * many
            assert_text_error(self, read_order, (f"{blanks}a<{blanks}a",), 2 * many + 3, TWICE)
            assert_text_error(self, read_order, (f"a<{blanks}",), many + 3, "expected a name")

    def test_layouts_of_rule_lists(self):
        wanted = (("before", "a", 2, "b"), ("after", "b", 1, "c"))
        for text in ("&[before 2]a<<b<c", "  &  [  before  2  ]  a  <<  b  <  c  ", "& [before 2] a << b < c",
                     "&[before2]a<<b<c"):
            if "before2" not in text:
                same(self, read_rules(text), wanted)
            else:
                assert_text_error(self, read_rules, (text,), 3, "expected before")
        assert_text_error(self, read_rules, ("& [before 2] a < < b < c",), 18, "expected a name")


class WrongArguments(unittest.TestCase):
    def test_each_function(self):
        text = ("text", "a", WRONG_TEXTS)
        kinds = (None, True, 0, "", "Order", "ORDER", "rule", "orders", "letter", "chain", "none", "side", (),
                 ("order",),
                 ["order"], {"order": 1}, b"order", "order ", 1.5)
        for function in (read_order, read_rules):
            assert_bad_values(self, function, [("text", "", WRONG_TEXTS)])
        assert_bad_values(self, next_tokens, [text, ("kind", "order", kinds)])
        for value in OTHER_VALUES:
            assert_bad_value(self, "kind", next_tokens, ("a", value))
            if not isinstance(value, str):
                for function in (read_order, read_rules, lambda given: next_tokens(given, "rules")):
                    assert_bad_value(self, "text", function, (value,))

    def test_bad_value_comes_before_text_error(self):
        for text in ("?", "a b", "& a", "a" * 13):
            assert_bad_value(self, "kind", next_tokens, (text, "Rules"))
        assert_bad_value(self, "text", read_order, ("?" * 401,))
        assert_bad_value(self, "text", read_rules, ("a\n",))

    def test_four_hundred_and_four_hundred_and_one(self):
        for function in (read_order, read_rules, lambda text: next_tokens(text, "order")):
            function(" " * 400)
            assert_bad_value(self, "text", function, (" " * 401,))


class Printed(unittest.TestCase):
    def test_point_128(self):
        same(self, read_rules("& [before 2] a << b < c"), (("before", "a", 2, "b"), ("after", "b", 1, "c")))

    def test_interface(self):
        assert_printed(self, '''
>>> from fewestrules.reading import next_tokens, read_order, read_rules
>>> from fewestrules.writing import order_text, rules_text
>>> read_order("a < ae<<b <<< c")
(('a', 'ae', 'b', 'c'), (1, 2, 3))
>>> order_text((("a", "ae", "b", "c"), (1, 2, 3)))
'a < ae << b <<< c'
>>> read_rules("& z < ae << oe & [before 2] a << b")
(('after', 'z', 1, 'ae'), ('after', 'ae', 2, 'oe'), ('before', 'a', 2, 'b'))
>>> rules_text((("after", "z", 1, "ae"), ("after", "ae", 2, "oe"), ("before", "a", 2, "b"), ("after", "b", 1, "c")))
'& z < ae << oe & [before 2] a << b < c'
>>> next_tokens("& [", "rules"), next_tokens("&", "rules"), next_tokens("a", "order")
(['before'], ['a name', '"["'], ['"<"', '"<<"', '"<<<"', 'the end'])
''')

    def test_the_last_call_of_the_interface(self):
        assert_text_error(self, read_rules, ("& [before 2] a <<< b",), 16, OTHER_STRENGTH)
