"""Points 2, 117, 118 and 127: texts, their tokens and columns, and the problems of tokens."""

import random
import re
import unittest

from fewestrules.errors import TextError
from fewestrules.scanning import scan
from tests.helpers import OTHER_VALUES, WRONG_TEXTS, assert_bad_value, assert_text_error, same

NO_TOKEN = "no token begins here"
LONG_NAME = "a name has at most 12 characters"
LONG_NUMBER = "a number has at most 6 digits"
TOKENS = ("a", "z9", "before", "ae", "abcdefghijkl", "0", "7", "123456", "&", "[", "]", "<", "<<", "<<<")
# Characters that begin no token, alike to those that do.
STRANGE = ("A", "_", "-", ".", ",", ">", "(", ")", "{", "\t", "\r", "\x0b", "\xa0", "\xe4", "\u0663", "\uff41",
           "\u2028",
           "\"", "\\", "\x00", "\U0001f600", "'", "=", "!", "\x85")


def kind_of(characters):
    if characters[0] in "&[]<":
        return "sign"
    return "number" if characters[0] in "0123456789" else "name"


def reckoned_scan(text):
    """The tokens of a text without problems, cut by a pattern."""
    found = []
    for match in re.finditer("[a-z][a-z0-9]*|[0-9]+|<<<|<<|<|&|\\[|\\]", text):
        found.append((kind_of(match.group()), match.group(), match.start() + 1))
    return found + [("end", "", len(text) + 1)]


def some_texts(seed, many):
    """Texts without problems: tokens with blanks between them, or side by side where they stay the same."""
    chance = random.Random(seed)
    for turn in range(many):
        text = " " * chance.randrange(3)
        for _ in range(turn % 30):
            token = chance.choice(TOKENS)
            while not apart(text, token):
                text += " "
            text += token + " " * chance.choice((0, 0, 1, 1, 2, 7))
        yield text


def apart(text, token):
    """True if the token stays apart from what the text ends with."""
    last = text[-1:]
    if kind_of(token) == "sign":
        return not (last == "<" and token[0] == "<")
    if kind_of(token) == "name":
        return not last.isalnum() or re.search("(^|[^a-z0-9])[0-9]+$", text) is not None
    return not last.isalnum()


class Tokens(unittest.TestCase):
    def test_against_a_pattern(self):
        for text in some_texts(240, 300):
            if len(text) <= 400:
                same(self, scan(text), reckoned_scan(text))

    def test_each_kind(self):
        for token in TOKENS:
            for text, column in ((token, 1), (f"   {token}  ", 4)):
                same(self, scan(text), [(kind_of(token), token, column), ("end", "", len(text) + 1)])

    def test_each_two_with_and_without_a_blank(self):
        for one in TOKENS:
            for other in TOKENS:
                wanted = [(kind_of(one), one, 1), (kind_of(other), other, len(one) + 2),
                          ("end", "", len(one + other) + 2)]
                same(self, scan(f"{one} {other}"), wanted)
                if apart(one, other):
                    wanted = [(kind_of(one), one, 1), (kind_of(other), other, len(one) + 1),
                              ("end", "", len(one + other) + 1)]
                    same(self, scan(one + other), wanted)

    def test_no_tokens(self):
        for many in (0, 1, 2, 399, 400):
            same(self, scan(" " * many), [("end", "", many + 1)])

    def test_four_hundred_characters(self):
        found = scan("a<" * 200)
        same(self, len(found), 401)
        same(self, found[398:], [("name", "a", 399), ("sign", "<", 400), ("end", "", 401)])
        same(self, scan(" " * 399 + "&"), [("sign", "&", 400), ("end", "", 401)])

    def test_the_longest_sign(self):
        for many in range(1, 12):
            signs = ["<<<"] * (many // 3)
            if many % 3:
                signs.append("<" * (many % 3))
            wanted = [("sign", sign, 3 * at + 1) for at, sign in enumerate(signs)]
            same(self, scan("<" * many), wanted + [("end", "", many + 1)])
        same(self, scan("<<<<"), [("sign", "<<<", 1), ("sign", "<", 4), ("end", "", 5)])
        same(self, scan("<<<<<"), [("sign", "<<<", 1), ("sign", "<<", 4), ("end", "", 6)])
        same(self, scan("< <<<< <"), [("sign", "<", 1), ("sign", "<<<", 3), ("sign", "<", 6), ("sign", "<", 8),
                                      ("end", "", 9)])

    def test_signs_side_by_side(self):
        same(self, scan("[]&&[["), [("sign", "[", 1), ("sign", "]", 2), ("sign", "&", 3), ("sign", "&", 4),
                                    ("sign", "[", 5), ("sign", "[", 6), ("end", "", 7)])

    def test_names_and_numbers_side_by_side(self):
        same(self, scan("a1b2"), [("name", "a1b2", 1), ("end", "", 5)])
        same(self, scan("12ab3"), [("number", "12", 1), ("name", "ab3", 3), ("end", "", 6)])
        for letter in "abcdefghijklmnopqrstuvwxyz":
            same(self, scan(f"7{letter}8"), [("number", "7", 1), ("name", f"{letter}8", 2), ("end", "", 4)])
        same(self, scan("a12"), [("name", "a12", 1), ("end", "", 4)])
        same(self, scan("007"), [("number", "007", 1), ("end", "", 4)])
        same(self, scan("before2"), [("name", "before2", 1), ("end", "", 8)])
        same(self, scan("2before"), [("number", "2", 1), ("name", "before", 2), ("end", "", 8)])
        same(self, scan("a 1 b"), [("name", "a", 1), ("number", "1", 3), ("name", "b", 5), ("end", "", 6)])
        same(self, scan("123456abcdefghijkl"), [("number", "123456", 1), ("name", "abcdefghijkl", 7), ("end", "", 19)])

    def test_a_changed_list_changes_no_later_answer(self):
        found = scan("a < b")
        wanted = list(found)
        found.pop()
        found[0] = None
        same(self, scan("a < b"), wanted)


class Problems(unittest.TestCase):
    def test_characters_that_begin_no_token(self):
        for sign in STRANGE:
            for text, column in ((sign, 1), (f"a < {sign}", 5), (f"a{sign}b", 2), (f"  12{sign}", 5), (f"<{sign}<", 2),
                                 (f"{sign}{sign}", 1), (" " * 399 + sign, 400)):
                assert_text_error(self, scan, (text,), column, NO_TOKEN)

    def test_a_name_of_twelve_characters_and_of_thirteen(self):
        for name in ("abcdefghijkl", "a12345678901", "z" * 12):
            same(self, scan(f" {name} ")[0], ("name", name, 2))
            for longer in ("m", "1", "mmmmmm"):
                assert_text_error(self, scan, (f"& {name}{longer} < a",), 3, LONG_NAME)
        assert_text_error(self, scan, ("a" * 400,), 1, LONG_NAME)
        assert_text_error(self, scan, ("1" + "a" * 13,), 2, LONG_NAME)

    def test_a_number_of_six_digits_and_of_seven(self):
        for number in ("123456", "000000", "999999"):
            same(self, scan(f"[{number}]")[1], ("number", number, 2))
            assert_text_error(self, scan, (f"[{number}0]",), 2, LONG_NUMBER)
        assert_text_error(self, scan, ("1" * 400,), 1, LONG_NUMBER)
        assert_text_error(self, scan, ("1234567a",), 1, LONG_NUMBER)

    def test_the_first_of_two(self):
        problems = (("A", NO_TOKEN), ("a" * 13, LONG_NAME), ("1" * 7, LONG_NUMBER), ("_", NO_TOKEN))
        for one, words in problems:
            for other, _ in problems:
                assert_text_error(self, scan, (f"a < {one} {other}",), 5, words)

    def test_a_problem_at_the_end_of_a_long_text(self):
        assert_text_error(self, scan, ("a<" * 199 + "a>",), 400, NO_TOKEN)
        assert_text_error(self, scan, ("a<" * 193 + "b" * 13,), 387, LONG_NAME)

    def test_what_the_error_keeps(self):
        with self.assertRaises(TextError) as caught:
            scan("a ? b")
        same(self, (caught.exception.column, caught.exception.words), (3, NO_TOKEN))


class WrongArguments(unittest.TestCase):
    def test_values_of_other_forms(self):
        for value in WRONG_TEXTS:
            assert_bad_value(self, "text", scan, (value,))
        for value in OTHER_VALUES:
            if not isinstance(value, str):
                assert_bad_value(self, "text", scan, (value,))

    def test_newlines(self):
        for text in ("\n", "a\n", "\na", "a < b\n< c", "A\n", "a" * 13 + "\n"):
            assert_bad_value(self, "text", scan, (text,))

    def test_four_hundred_and_four_hundred_and_one(self):
        for text in (" " * 401, "a " * 200 + "a", "?" * 401, "<" * 401):
            assert_bad_value(self, "text", scan, (text,))
        same(self, len(scan("<" * 400)), 135)
        assert_text_error(self, scan, ("?" * 400,), 1, NO_TOKEN)
