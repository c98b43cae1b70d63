"""Orders and rule lists that are read from their texts."""

from fewestrules.errors import BadValue, TextError
from fewestrules.orders import MOST_LETTERS, is_strength
from fewestrules.rules import AFTER, BEFORE, MOST_RULES
from fewestrules.scanning import NAME, NUMBER, SIGN, check_text, tokens_of

ORDER = "order"
RULES = "rules"
A_NAME = "a name"
A_NUMBER = "a number"
THE_END = "the end"
# For each place of the two grammars the words of what can come there, in their order, each with the place behind it.
PLACES = {
    "order": (("a name", "letter"), ("the end", "none")),
    "letter": (('"<"', "order sign"), ('"<<"', "order sign"), ('"<<<"', "order sign"), ("the end", "none")),
    "order sign": (("a name", "letter"),),
    "rules": (('"&"', "chain"), ("the end", "none")),
    "chain": (("a name", "anchor"), ('"["', "side")),
    "side": (("before", "number"),),
    "number": (("a number", "bracket"),),
    "bracket": (('"]"', "chain behind brackets"),),
    "chain behind brackets": (("a name", "anchor"),),
    "anchor": (('"<"', "rule sign"), ('"<<"', "rule sign"), ('"<<<"', "rule sign")),
    "rule sign": (("a name", "rule"),),
    "rule": (('"&"', "chain"), ('"<"', "rule sign"), ('"<<"', "rule sign"), ('"<<<"', "rule sign"),
             ("the end", "none")),
}


def words_at(place):
    """The list of the words of what can come at the place."""
    return [choice[0] for choice in PLACES[place]]


def words_for(token):
    """The words by which a grammar can tell the token."""
    kind, characters, _ = token
    if kind == NAME:
        # Where only the name before can come, the grammar tells its characters; all other words differ from names.
        return A_NAME, characters
    if kind == NUMBER:
        return (A_NUMBER,)
    if kind == SIGN:
        return (f'"{characters}"',)
    return (THE_END,)


def place_behind(place, token):
    """The place behind the token, or None if it cannot come at this place."""
    words = words_for(token)
    for word, behind in PLACES[place]:
        if word in words:
            return behind
    return None


def listed(words):
    """The words in a row: with commas, and with or before the last one."""
    if len(words) == 1:
        return words[0]
    return ", ".join(words[:-1]) + " or " + words[-1]


def place_after_all(tokens, kind):
    """The place behind all tokens in the grammar of this kind; raises TextError if one of them cannot come."""
    place = kind
    for token in tokens:
        behind = place_behind(place, token)
        if behind is None:
            raise TextError(token[2], "expected " + listed(words_at(place)))
        place = behind
    return place


def tokens_that_follow(text, kind):
    """The tokens of the text without the end; raises TextError if they do not follow the grammar of this kind."""
    check_text(text, "text")
    tokens = tokens_of(text)
    place_after_all(tokens, kind)
    return tokens[:-1]


def strength_of(sign):
    """The strength that a token tells, which is a relation's sign."""
    return len(sign[1])


def letter_at(name, letters):
    """The letter that a token tells behind these letters of an order."""
    if len(letters) == MOST_LETTERS:
        raise TextError(name[2], "an order has at most 12 letters")
    if name[1] in letters:
        raise TextError(name[2], "this letter stands already")
    return name[1]


def chains_of(tokens):
    """The list of the chains, each the list of its tokens behind the sign with which it begins."""
    chains = []
    for token in tokens:
        if token[1] == "&":
            chains.append([])
        else:
            chains[-1].append(token)
    return chains


def strength_in_brackets(number):
    """The strength that the token of a number tells."""
    strength = int(number[1])
    if not is_strength(strength):
        raise TextError(number[2], "a strength is from 1 to 3")
    return strength


def rules_of_relations(side, told, tokens, many):
    """The list of the rules of an anchor and its relations, of which the first one has the side.

    The brackets have told its strength, or None; so many rules stand ahead of these.
    """
    rules = []
    anchor = tokens[0][1]
    for sign, name in zip(tokens[1::2], tokens[2::2]):
        if told is not None and told != strength_of(sign):
            raise TextError(sign[2], "the brackets tell another strength")
        if many + len(rules) == MOST_RULES:
            raise TextError(name[2], "there are at most 20 rules")
        if name[1] == anchor:
            raise TextError(name[2], "a letter is not its own anchor")
        rules.append((side, anchor, strength_of(sign), name[1]))
        side, told, anchor = AFTER, None, name[1]
    return rules


def rules_of_chain(chain, many):
    """The list of the rules of a chain, ahead of which so many rules stand."""
    if chain[0][1] != "[":
        return rules_of_relations(AFTER, None, chain, many)
    # Behind the bracket stand the word before, the number, the other bracket, and then what each chain has.
    return rules_of_relations(BEFORE, strength_in_brackets(chain[2]), chain[4:], many)


def next_tokens(text, kind):
    """The list of the words of what can come behind the tokens of the text, the beginning of a text of this kind."""
    check_text(text, "text")
    if not isinstance(kind, str) or kind not in (ORDER, RULES):
        raise BadValue("kind")
    return words_at(place_after_all(tokens_of(text)[:-1], kind))


def read_order(text):
    """The order that the text tells."""
    letters, strengths = [], []
    for token in tokens_that_follow(text, ORDER):
        if token[0] == NAME:
            letters.append(letter_at(token, letters))
        else:
            strengths.append(strength_of(token))
    return tuple(letters), tuple(strengths)


def read_rules(text):
    """The rule list that the text tells, a tuple."""
    rules = []
    for chain in chains_of(tokens_that_follow(text, RULES)):
        rules.extend(rules_of_chain(chain, len(rules)))
    return tuple(rules)
