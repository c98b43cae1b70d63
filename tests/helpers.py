"""What several tests need: orders to try, wrong values, and strict comparisons.

The reckonings here are written from the document's words, apart from the program.
"""

import doctest
import functools
import random
from itertools import combinations, permutations, product

from fewestrules.errors import BadValue, TextError

NAMES = ("a", "b", "c", "d", "e", "f", "g", "h", "i", "j", "k", "l", "m", "n")
TWELVE = NAMES[:12]
THIRTEEN = NAMES[:13]

WRONG_LETTERS = (None, True, False, 0, 1, (), [], ("a",), ["a"], b"a", "", "A", "1", "1a", "_a", "a_", "a b",
                 " a", "a ", "a\n", "aB", "a-", "a.", "\xe4", "a\xe4", "a\u0663", "\uff41", "abcdefghijklm")

WRONG_TUPLES = (None, True, 0, 1, "a", "ab", "", [], ["a"], {"a": 1}, ("a", "a"), ("a", "b", "a"), (None,),
                ("a", 1), ("a", ("b",)), ("a", ["b"]), ("A",), ("a", ""), THIRTEEN, NAMES)

WRONG_LEVELS = (None, True, False, 0, 4, -1, "1", "", (), (1,), [1], 1.0)

WRONG_ORDERS = (
    None, True, 0, 1, "ab", "", (), [], ((),), ((), (), ()), [(), ()], ([], ()), ((), []), ((), None), (None, ()),
    ("", ()), ((), ""), ("a", ()), ((), (1,)), (("a",), (1,)), (("a",), None), (("a",), []), (["a"], ()),
    (("a", "b"), ()), (("a", "b"), (1, 1)), (("a", "b"), [1]), (["a", "b"], (1,)), [("a", "b"), (1,)],
    (("a", "b"), 1), (("a", "b"), (0,)), (("a", "b"), (4,)), (("a", "b"), (-1,)), (("a", "b"), (True,)),
    (("a", "b"), ("1",)), (("a", "b"), (None,)), (("a", "b"), ((1,),)), (("a", "b"), (1.0,)),
    (("a", "a"), (1,)), (("a", "b", "a"), (1, 2)), (("a", "B"), (1,)), (("a", ""), (1,)), (("a", 1), (1,)),
    (("a", ["b"]), (1,)), (("a", None), (1,)), (("a", "b"), (1,), ()), (THIRTEEN, (1,) * 12),
    (THIRTEEN, (1,) * 11), (TWELVE, (1,) * 12), (TWELVE, (1,) * 10), (TWELVE, (1,) * 10 + (True,)),
)

GOOD_RULE = ("after", "a", 1, "x")

WRONG_RULES = (
    None, True, 0, "after", "", (), [], ["after", "a", 1, "b"], ("after", "a", 1), ("after", "a", 1, "b", 1),
    ("after", "a", 1, "a"), ("before", "b", 3, "b"), ("After", "a", 1, "b"), ("", "a", 1, "b"),
    ("behind", "a", 1, "b"), (None, "a", 1, "b"), (True, "a", 1, "b"), (("after",), "a", 1, "b"),
    (["after"], "a", 1, "b"), ("after", "A", 1, "b"), ("after", "", 1, "b"), ("after", None, 1, "b"),
    ("after", ["a"], 1, "b"), ("after", "a", 0, "b"), ("after", "a", 4, "b"), ("after", "a", True, "b"),
    ("after", "a", "1", "b"), ("after", "a", None, "b"), ("after", "a", 1.0, "b"), ("after", "a", 1, "B"),
    ("after", "a", 1, ""), ("after", "a", 1, None), ("after", "a", 1, ["b"]), ("after", "a", 1, ("b",)),
    ("after", "a", "b", 1), ("a", "after", 1, "b"), ("after", "a", 1, "abcdefghijklm"), (GOOD_RULE,),
)

WRONG_RULE_LISTS = (
    None, True, 0, "", "after", [], [GOOD_RULE], GOOD_RULE, (GOOD_RULE,) * 21, (GOOD_RULE, None),
    (None, GOOD_RULE), ((GOOD_RULE,),), (list(GOOD_RULE),), (GOOD_RULE, ("after", "a", True, "b")),
    (GOOD_RULE,) * 19 + (("after", "a", 1, "a"),), {},
)


# Values that are no order, no tuple of rules, levels or indexes, and no evidence of any kind.
OTHER_VALUES = (None, True, False, 0, 1, -1, 1.5, "", "a", "after", b"a", [], [()], {}, {"a": 1}, {1}, set(), object(),
                (None,), (True,), (1.5,), ("a",), ((),), ([],), ((), None), ((None,),), (((),),), ("a", "b"),
                ("count",), ("pair",), ("count", None), ("pair", None, None))


def same(test, got, wanted):
    """Asserts that two values are equal and of the same kinds throughout: True is not 1, a list no tuple."""
    test.assertEqual(repr(got), repr(wanted))


def orders_of(letters):
    """All orders of just these letters, in the sequence of point 58."""
    for row in permutations(letters):
        for strengths in product((1, 2, 3), repeat=max(len(row) - 1, 0)):
            yield row, strengths


def orders_within(letters):
    """All orders of any of these letters."""
    for many in range(len(letters) + 1):
        for part in combinations(letters, many):
            yield from orders_of(part)


def some_order(chance, letters, many):
    """An order of so many of the letters."""
    row = tuple(chance.sample(list(letters), many))
    weights = chance.choice(((1, 2, 3), (1, 3), (2, 3), (1, 1, 1, 2, 3), (3, 3, 3, 2, 1), (1,), (3,)))
    return row, tuple(chance.choice(weights) for _ in range(max(many - 1, 0)))


def some_orders(seed, many, least=1, most=12):
    """So many orders of least to most letters, the same ones each time."""
    chance = random.Random(seed)
    for turn in range(many):
        yield some_order(chance, NAMES, least + turn % (most - least + 1))


def reckoned_difference(order, one, other):
    """The difference of two letters as point 9 tells it."""
    letters, strengths = order
    found = 4
    for place, strength in enumerate(strengths):
        ends = (letters.index(one), letters.index(other))
        if min(ends) <= place < max(ends) and strength < found:
            found = strength
    return found


def turned(order):
    """The order in reverse."""
    return tuple(reversed(order[0])), tuple(reversed(order[1]))


def assert_bad_values(test, function, arguments):
    """Asserts what the function raises for wrong arguments.

    The arguments are tuples (name, right value, wrong values), in their sequence. Each of them is wrong
    alone, and with each choice of later ones that are wrong, too.
    """
    right = [value for _, value, _ in arguments]
    for place, (name, _, wrong) in enumerate(arguments):
        later = list(range(place + 1, len(arguments)))
        for value in wrong:
            for many in range(len(later) + 1):
                for also in combinations(later, many):
                    given = list(right)
                    given[place] = value
                    for at in also:
                        given[at] = arguments[at][2][0]
                    assert_bad_value(test, name, function, given)


def assert_bad_value(test, name, function, given):
    """Asserts that the function raises BadValue with this name."""
    with test.assertRaises(BadValue, msg=f"{function} {given!r}") as caught:
        function(*given)
    test.assertEqual(caught.exception.name, name, f"{function} {given!r}")


def assert_text_error(test, function, given, column, words):
    """Asserts that the function raises TextError with this column and these words."""
    with test.assertRaises(TextError, msg=f"{function} {given!r}") as caught:
        function(*given)
    same(test, (caught.exception.column, caught.exception.words), (column, words))


def assert_printed(test, text):
    """Asserts that calls print what the text says, as an interactive session shows it."""
    session = doctest.DocTestParser().get_doctest(text, {}, test.id(), None, 0)
    test.assertTrue(session.examples)
    told = []
    result = doctest.DocTestRunner(verbose=False).run(session, out=told.append)
    test.assertEqual(result.failed, 0, "".join(told))


def rules_for(anchors, letter):
    """All rules that put the letter beside one of the anchors, in the sequence of point 27."""
    for side in ("after", "before"):
        for anchor in anchors:
            for strength in (1, 2, 3):
                if anchor != letter:
                    yield side, anchor, strength, letter


def reckoned_result(order, rule):
    """The result of a rule, told by the sentences of point 23."""
    side, anchor, strength, letter = rule
    others = [x for x in order[0] if x != letter]
    near = [x for x in others if reckoned_difference(order, anchor, x) > strength]
    place = others.index(anchor)
    if side == "after":
        many = max([place] + [others.index(x) for x in near]) + 1
    else:
        many = min([place] + [others.index(x) for x in near])
    row = others[:many] + [letter] + others[many:]
    strengths = []
    for one, other in zip(row, row[1:]):
        if letter in (one, other):
            other = other if one == letter else one
            strengths.append(min(strength, reckoned_difference(order, anchor, other)))
        else:
            strengths.append(reckoned_difference(order, one, other))
    return tuple(row), tuple(strengths)


def some_rules(chance, order, many):
    """So many rules that can be applied to the order, which has letters, one after another."""
    rules = []
    for _ in range(many):
        left = [letter for letter in NAMES if len(order[0]) < 12 or letter in order[0]]
        anchor = chance.choice(order[0])
        letter = chance.choice([letter for letter in left if letter != anchor])
        rule = (chance.choice(("after", "before")), anchor, chance.choice((1, 2, 3)), letter)
        rules.append(rule)
        order = reckoned_result(order, rule)
    return tuple(rules)


def reckoned_led(order, rules):
    """The order to which rules lead, one by one as point 23 tells it."""
    for rule in rules:
        order = reckoned_result(order, rule)
    return order


def some_pairs(seed, many, most=12):
    """So many pairs of orders: alike but for some rules, of the same letters, of other letters."""
    chance = random.Random(seed)
    for turn in range(many):
        first = some_order(chance, NAMES, 1 + turn % most)
        if turn % 5 < 2:
            letters = NAMES[:most] if most < 12 else NAMES
            second = some_order(chance, first[0] if turn % 5 else letters, len(first[0]))
        else:
            second = reckoned_led(first, some_rules(chance, first, turn % 4 + 1))
        yield first, second


def reachable_pairs(seed, many, most=12):
    """Those of some_pairs whose second order can be reached."""
    for first, second in some_pairs(seed, many, most):
        if all(letter in second[0] for letter in first[0]):
            yield first, second


def small_reachable_pairs():
    """All pairs of orders of up to three letters, the first with letters, whose second order can be reached."""
    orders = list(orders_within(("a", "b", "c")))
    for first in orders:
        for second in orders:
            if first[0] and all(letter in second[0] for letter in first[0]):
                yield first, second


def steps_from(first, letters):
    """All orders that rules make of an order, moving these letters, with the number of the fewest rules for each."""
    steps = {first: 0}
    ahead = [first]
    while ahead:
        order = ahead.pop(0)
        for letter in letters:
            for rule in rules_for(order[0], letter):
                result = reckoned_result(order, rule)
                if result not in steps:
                    steps[result] = steps[order] + 1
                    ahead.append(result)
    return steps


def left_out(order, letter):
    """The order without the letter."""
    row = tuple(x for x in order[0] if x != letter)
    return row, tuple(reckoned_difference(order, x, y) for x, y in zip(row, row[1:]))


def put_behind(order, letter, strength):
    """The order with a new letter behind all others."""
    return order[0] + (letter,), order[1] + (strength,) * min(len(order[0]), 1)


def reckoned_right(first, second, levels):
    """Point 36 word by word, for a tuple of as many integers as the second order has letters."""
    told = dict(zip(second[0], levels))
    for letter in second[0]:
        if letter in first[0] and told[letter] < 1 or letter not in first[0] and told[letter] != 0:
            return False
    for x, y in combinations([letter for letter in second[0] if letter in first[0]], 2):
        if first[0].index(x) < first[0].index(y):
            if reckoned_difference(first, x, y) == reckoned_difference(second, x, y) and told[y] <= told[x]:
                return False
    return True


def reckoned_common(first, second):
    """All common lists of two orders, the longest ones first, else in the sequence of point 33."""
    shared = [letter for letter in second[0] if letter in first[0]]
    goes = {}
    for one, other in combinations(shared, 2):
        ahead = first[0].index(one) < first[0].index(other)
        goes[one, other] = ahead and reckoned_difference(first, one, other) == reckoned_difference(second, one, other)
    lists = [()]
    for letter in shared:
        lists += [row + (letter,) for row in lists if all(goes[other, letter] for other in row)]
    return sorted(lists, key=lambda row: (-len(row), [second[0].index(letter) for letter in row]))


def reckoned_longest(first, second):
    """All longest common lists of two orders, in the sequence of point 33."""
    lists = reckoned_common(first, second)
    return [row for row in lists if len(row) == len(lists[0])]


def reckoned_groups(order, level):
    """The groups of the level as lists of letters: letters whose difference is greater than the level."""
    rows = []
    for letter in order[0]:
        row = [x for x in order[0] if reckoned_difference(order, letter, x) > level]
        if row not in rows:
            rows.append(row)
    return rows


@functools.lru_cache(None)
def reckoned_weights(order, letter):
    """The weights of a letter, counted in the groups as point 77 tells them."""
    coarse = reckoned_groups(order, 1)
    row = [group for group in coarse if letter in group][0]
    parts = [part for part in reckoned_groups(order, 2) if set(part) <= set(row)]
    part = [found for found in parts if letter in found][0]
    return coarse.index(row) + 1, parts.index(part) + 1, part.index(letter) + 1


def reckoned_compare(order, first, second, level):
    """What comparing two words gives, level by level and place by place."""
    for at in range(level):
        for one, other in zip(first, second):
            weights = reckoned_weights(order, one)[at], reckoned_weights(order, other)[at]
            if weights[0] != weights[1]:
                return -1 if weights[0] < weights[1] else 1
        if len(first) != len(second):
            return -1 if len(first) < len(second) else 1
    return 0


def some_word(chance, letters, most=12):
    """A word of these letters, of which some stand in it several times."""
    if not letters:
        return ()
    letters = chance.sample(list(letters), min(len(letters), chance.choice((1, 2, 2, 3, 12))))
    return tuple(chance.choice(letters) for _ in range(chance.choice((0, 1, 2, 2, 3, 3, 4, most))))


def some_words(chance, order, many=12):
    """So many words of the order, of which some are the same and some begin with another one."""
    words = []
    for _ in range(many):
        word = some_word(chance, order[0])
        if words and chance.random() < 0.4:
            word = (chance.choice(words) + word[:1])[:12]
        if words and chance.random() < 0.2:
            word = chance.choice(words)[::-1]
        words.append(word)
    return tuple(words)


def short_words(letters):
    """All words of at most two of the letters, in the sequence of point 84."""
    return [word for many in range(3) for word in product(letters, repeat=many)]


known_result = functools.lru_cache(None)(reckoned_result)


def reckoned_can(one, other):
    """Point 55 sentence by sentence."""
    if one == other:
        return True
    if one[3] == other[3]:
        return False
    if one[1] == other[3] or other[1] == one[3]:
        return False
    if one[0] == other[0] and one[2] == other[2]:
        return not (one[1] == other[1] or one[2] in (1, 2))
    return True


def reckoned_or_none(order, rules):
    """The order to which rules lead, or None if one of them cannot be applied when its turn comes."""
    for rule in rules:
        if rule[1] not in order[0] or len(order[0]) == 12 and rule[3] not in order[0]:
            return None
        order = known_result(order, rule)
    return order


def reckoned_shows(one, other, order):
    """Point 57 sentence by sentence."""
    if one[1] not in order[0] or other[1] not in order[0]:
        return False
    found, turned_round = reckoned_or_none(order, (one, other)), reckoned_or_none(order, (other, one))
    return found is not None and turned_round is not None and found != turned_round


def reckoned_letters(one, other):
    """The letters of two rules, as point 58 tells them."""
    letters = list(dict.fromkeys((one[1], one[3], other[1], other[3])))
    if len(letters) == 2:
        letters.append(min({"a", "b", "c"} - set(letters)))
    return tuple(letters)


def reckoned_first(one, other):
    """Point 58: the orders gone through in its sequence, which is that of orders_of."""
    for order in orders_of(reckoned_letters(one, other)):
        if reckoned_shows(one, other, order):
            return order
    return None


def some_list(chance, many, anchors=NAMES[:3], letters=NAMES[:6]):
    """A rule list of so many rules, of which some are equal."""
    rules = []
    for _ in range(many):
        if rules and chance.random() < 0.2:
            rules.append(chance.choice(rules))
            continue
        anchor = chance.choice(anchors)
        letter = chance.choice([letter for letter in letters if letter != anchor])
        rules.append((chance.choice(("after", "before")), anchor, chance.choice((1, 2, 3, 3)), letter))
    return tuple(rules)


def alike_pairs(seed, many, most=12):
    """Pairs of orders of the same letters: any two, and two with at most three rules between them."""
    chance = random.Random(seed)
    for first in some_orders(seed, many, 1, most):
        yield first, some_order(chance, first[0], len(first[0]))
        moving = [rule for letter in first[0] for rule in rules_for(first[0], letter)]
        yield first, reckoned_led(first, chance.sample(moving, min(3, len(moving))))


def some_changes(seed, many, most=12):
    """Orders with rule lists that can be applied to them, with 0 to most words and each level."""
    chance = random.Random(seed)
    for turn, order in enumerate(some_orders(seed, many)):
        rules = some_rules(chance, order, chance.choice((0, 1, 1, 2, 4, 9, 20)))
        words = some_words(chance, order, most - turn % (most + 1))
        for level in (1, 2, 3):
            yield order, rules, words, level


def some_command(chance, order, letters=NAMES):
    """A command for a workshop whose current order this is; some of them cannot be done."""
    kind = chance.randrange(10)
    if kind == 0:
        return ("reset",)
    if not order[0]:
        return ("rules", ())
    rules = []
    for _ in range(1 if kind < 6 else chance.randrange(5)):
        anchor = chance.choice(letters if chance.random() < 0.1 else order[0])
        letter = chance.choice([letter for letter in letters if letter != anchor])
        rules.append((chance.choice(("after", "before")), anchor, chance.choice((1, 2, 3)), letter))
    return ("rule", rules[0]) if kind < 6 else ("rules", tuple(rules))


# No words of an order with the letters a, b and c, and no tuples of such words.
WRONG_WORDS = (None, True, 0, 1, "", "a", "ab", [], ["a"], {"a": 1}, ("z",), ("a", "z"), ("a", ""), (None,), (1,),
               ("a", 1), ("a", ("b",)), ("a", ["b"]), ("A",), (("a",),), ("ab",), ("a",) * 13, ("a", True), ([],),
               ("a", "b", "c") * 5, {"a"})
WRONG_TUPLES_OF_WORDS = (None, True, 0, 1, "", "a", [], [("a",)], ["a"], ("a",), ("a", "b"), (("a",), "b"),
                         (("a",), ["b"]), (("z",),), (("a",), ("b", "z")), (("a",), None), (("a",) * 13,),
                         ((),) * 13, (("a",),) * 13, {("a",): 1}, {()}, ((("a",),),), (("a", 1),), (("a", None),),
                         (1,), (["a"],))

# No texts; the last ones would have problems, too.
WRONG_TEXTS = (None, True, False, 0, 1, 1.5, b"a < b", (), ("a",), [], ["a"], {"a": 1}, "\n", "a\n", "\na", "a <\n b",
               " " * 401, "a " * 201, "a" * 401, "?" * 401, "?\n")

WRONG_COMMANDS = (
    None, True, 0, "reset", "rule", (), [], ["reset"], ("Reset",), ("reset", ()), ("reset", None), ("reset", GOOD_RULE),
    ("undo",), ("",), (None,), (True,), (("reset",),), (["reset"],), ("rule",), ("rules",), ("rule", None),
    ("rule", ()),
    ("rule", (GOOD_RULE,)), ("rules", GOOD_RULE), ("rules", None), ("rules", [GOOD_RULE]), ("rule", list(GOOD_RULE)),
    ["rule", GOOD_RULE], ("rule", GOOD_RULE, ()), ("rules", (), ()), ("Rule", GOOD_RULE), ("reset", "reset"),
    ("rules", (GOOD_RULE,) * 21), ("rules", (GOOD_RULE, None)), ("rule", ("after", "a", True, "x")), (0, GOOD_RULE),
    ("rule", ("after", "a", 1, "a")), ("rules", (("after", "a", 4, "b"),)), ("rule",) + GOOD_RULE, (None, GOOD_RULE),
    GOOD_RULE, (GOOD_RULE,), {"rule": GOOD_RULE}, (("rule",), GOOD_RULE), (["rule"], GOOD_RULE), ("", ()),
)

# No common list of any orders, and no argument `letters` of a right form, whatever the orders are.
NO_LISTS = WRONG_TUPLES + (False, 1.5, b"a", object(), {"a"}, {"a": 1}, ["a", "b"], (("a",),), ("a", True),
                           ("a", None, "b"), (["a"], "b"), TWELVE + ("a",))

REVERSED_THREES = tuple("cbafedihglkj")
ALIKE_TWELVE = (TWELVE, (1,) * 11)
MANY_LONGEST = (
    (ALIKE_TWELVE, (TWELVE[::-1], (1,) * 11), 12),
    (ALIKE_TWELVE, (tuple("badcfehgjilk"), (1,) * 11), 64),
    (ALIKE_TWELVE, (REVERSED_THREES, (1,) * 11), 81),
    (ALIKE_TWELVE, (TWELVE, (2,) * 11), 12),
    ((TWELVE, (3, 3, 1) * 3 + (3, 3)), (REVERSED_THREES, (3, 3, 1) * 3 + (3, 3)), 81),
    ((TWELVE, (2, 2, 1) * 3 + (2, 2)), (TWELVE, (3, 3, 1) * 3 + (3, 3)), 81),
    (ALIKE_TWELVE, ALIKE_TWELVE, 1),
)
