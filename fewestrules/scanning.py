"""The tokens of texts."""

from fewestrules.errors import BadValue, TextError
from fewestrules.orders import CHARACTERS, FIRST_CHARACTERS, MOST_CHARACTERS

NAME = "name"
NUMBER = "number"
SIGN = "sign"
END = "end"
BLANK = " "
DIGITS = "0123456789"
# A sign stands before those that it begins with, because the longest one is taken.
SIGNS = ("&", "[", "]", "<<<", "<<", "<")
MOST_IN_TEXT = 400
MOST_DIGITS = 6


def check_text(value, name):
    """Raises BadValue with the name if the value is not a text."""
    if not isinstance(value, str) or len(value) > MOST_IN_TEXT or "\n" in value:
        raise BadValue(name)


def row_at(text, place, allowed):
    """The longest row of allowed characters that begins at the place."""
    stop = place
    while stop < len(text) and text[stop] in allowed:
        stop += 1
    return text[place:stop]


def name_at(text, place):
    """The characters of the name that begins at the place."""
    characters = row_at(text, place, CHARACTERS)
    if len(characters) > MOST_CHARACTERS:
        raise TextError(place + 1, "a name has at most 12 characters")
    return characters


def number_at(text, place):
    """The characters of the number that begins at the place."""
    characters = row_at(text, place, DIGITS)
    if len(characters) > MOST_DIGITS:
        raise TextError(place + 1, "a number has at most 6 digits")
    return characters


def sign_at(text, place):
    """The characters of the sign that begins at the place, where neither a blank stands nor another token."""
    for sign in SIGNS:
        if text[place:place + len(sign)] == sign:
            return sign
    raise TextError(place + 1, "no token begins here")


def token_at(text, place):
    """The token that begins at the place, where no blank stands."""
    if text[place] in FIRST_CHARACTERS:
        return NAME, name_at(text, place), place + 1
    if text[place] in DIGITS:
        return NUMBER, number_at(text, place), place + 1
    return SIGN, sign_at(text, place), place + 1


def tokens_of(text):
    """The list of the tokens of the text, which is not checked again, with the end behind them."""
    tokens = []
    place = 0
    while place < len(text):
        if text[place] == BLANK:
            place += 1
        else:
            token = token_at(text, place)
            tokens.append(token)
            place += len(token[1])
    tokens.append((END, "", len(text) + 1))
    return tokens


def scan(text):
    """The list of the tokens of the text, each a tuple of its kind, its characters and its column."""
    check_text(text, "text")
    return tokens_of(text)
