"""Points 1 to 4, 7 and 8 over the whole program: its names, the kinds of its values, and calls that are repeated."""

import copy
import importlib
import inspect
import pathlib
import random
import unittest

from fewestrules.fewest import answer_for, is_fewest
from fewestrules.journals import are_right
from fewestrules.rules import led
from fewestrules.staying import accepts_staying, cover_for, staying
from fewestrules.steps import is_shortest_row, way
from fewestrules.workshop import Workshop
from tests.helpers import alike_pairs, reckoned_longest, same, some_changes, steps_from

PACKAGE = pathlib.Path(__file__).resolve().parent.parent / "fewestrules"
ORDER = (("a", "b", "c"), (2, 1))
OTHER = (("c", "b", "a"), (1, 3))
TABLE = ((4, 2, 1), (2, 4, 1), (1, 1, 4))
CLASHING = ((4, 1, 2), (1, 4, 3), (2, 3, 4))
RULE, AGAINST = ("after", "a", 1, "x"), ("after", "a", 1, "y")
MOVING = ("before", "a", 2, "c")
RULES = (RULE, ("after", "a", 2, "y"), ("before", "x", 3, "z"))
TURNED = (RULES[1], RULES[0], RULES[2])
TWICE = (MOVING, ("after", "b", 1, "c"))
WORDS = (("a",), ("b",), ("c",), ("b", "a"))
SORTED = (("a",), ("b",), ("b", "a"), ("c",))
LEVELS = (1, 1, 1)

# For each module its functions, with their parameters, the kinds of what they return, and some calls.
INTERFACE = {
    "orders": (
        ("is_letter(value)", "bool", ("a",), ("A",), (None,)),
        ("is_order(value)", "bool", (ORDER,), (None,)),
        ("difference(order, first, second)", "int", (ORDER, "a", "c"), (ORDER, "a", "a")),
        ("groups(order, level)", "list", (ORDER, 1), (ORDER, 3), (((), ()), 1)),
        ("group_of(order, letter, level)", "tuple", (ORDER, "a", 1)),
        ("without(order, letters)", "tuple", (ORDER, ("b", "z"))),
        ("reversed_order(order)", "tuple", (ORDER,)),
    ),
    "tables": (
        ("table_of(order)", "tuple", (ORDER,)),
        ("is_table(value)", "bool", (TABLE,), (CLASHING,)),
        ("is_scheme(value)", "bool", (TABLE,), (ORDER,)),
        ("order_of(letters, table)", "tuple", (("x", "y", "z"), TABLE)),
        ("fits(order, letters, scheme)", "bool", (ORDER, ("a", "b", "c"), TABLE), (OTHER, ("a", "b", "c"), CLASHING)),
        ("clash(scheme)", "tuple None", (CLASHING,), (TABLE,)),
        ("first_order(letters, scheme)", "tuple None", (("x", "y", "z"), TABLE), (("x", "y", "z"), CLASHING)),
        ("count_orders(scheme)", "int", (TABLE,), (CLASHING,)),
    ),
    "rules": (
        ("is_rule(value)", "bool", (RULE,), (ORDER,)),
        ("is_rule_list(value)", "bool", (RULES,), (RULE,)),
        ("can_apply(order, rule)", "bool", (ORDER, RULE), (ORDER, RULES[2])),
        ("applied(order, rule)", "tuple", (ORDER, RULE)),
        ("led(order, rules)", "tuple", (ORDER, RULES)),
    ),
    "placing": (
        ("placed(order, rule)", "tuple", (ORDER, RULE), (ORDER, MOVING)),
        ("alike(order, rule)", "list", (ORDER, RULE)),
        ("way_back(order, rule)", "tuple None", (ORDER, MOVING), (ORDER, RULE)),
    ),
    "common": (
        ("is_common(first, second, letters)", "bool", (ORDER, OTHER, ("a",)), (ORDER, OTHER, ("a", "b"))),
        ("longest_common(first, second)", "tuple", (ORDER, OTHER)),
        ("levels_for(first, second)", "tuple", (ORDER, OTHER)),
        ("accepts_levels(first, second, levels)", "bool", (ORDER, OTHER, LEVELS), (ORDER, ORDER, LEVELS)),
    ),
    "counting": (
        ("count_longest(first, second)", "int", (ORDER, OTHER)),
        ("nth_longest(first, second, index)", "tuple", (ORDER, OTHER, 1)),
        ("index_of_longest(first, second, letters)", "int None", (ORDER, OTHER, ("b",)), (ORDER, OTHER, ())),
        ("always_in(first, second)", "tuple", (ORDER, ORDER)),
        ("never_in(first, second)", "tuple", (ORDER, (("b", "x"), (1,)))),
        ("longest_with(first, second, letters)", "tuple None", (ORDER, OTHER, ("a",)), (ORDER, OTHER, ("a", "b"))),
    ),
    "keeping": (
        ("keeping_rules(first, second, letters)", "tuple None", (ORDER, OTHER, ("a",)), (ORDER, (("a",), ()), ("a",))),
    ),
    "fewest": (
        ("can_reach(first, second)", "bool", (ORDER, OTHER), (ORDER, (("a",), ()))),
        ("distance(first, second)", "int None", (ORDER, OTHER), (ORDER, (("a",), ()))),
        ("shortest_rules(first, second)", "tuple None", (ORDER, OTHER), (ORDER, (("a",), ()))),
        ("moved_letters(first, second)", "tuple None", (ORDER, OTHER), (ORDER, (("a",), ()))),
        ("told(first, second, rules)", "str", (ORDER, OTHER, ()), (ORDER, ORDER, ()), (ORDER, ORDER, TWICE)),
        ("answer_for(first, second)", "tuple None", (ORDER, OTHER), (ORDER, (("a",), ()))),
        ("is_fewest(first, second, rules, levels)", "bool", (ORDER, ORDER, (), (1, 2, 3)), (ORDER, OTHER, (), LEVELS)),
    ),
    "exchange": (
        ("can_exchange(one, other)", "bool", (RULE, AGAINST), (RULE, RULE)),
        ("first_showing(one, other)", "tuple None", (RULE, AGAINST), (RULE, RULE)),
        ("shows(one, other, order)", "bool", (RULE, AGAINST, ORDER), (RULE, RULE, ORDER)),
    ),
    "sequences": (
        ("dependent_pairs(rules)", "list", (RULES,)),
        ("count_sequences(rules)", "int", (RULES,)),
        ("swapped(rules, swaps)", "tuple None", (RULES, (1,)), (RULES, (0, 1, 0))),
        ("swaps_to(rules, other)", "tuple None", (RULES, TURNED), (RULES, RULES[::-1])),
        ("why_unlike(rules, other)", "tuple None", (RULES, RULES[::-1]), (RULES, TURNED)),
        ("accepts_unlike(rules, other, evidence)", "bool", (RULES, (), ("count", RULE)), (RULES, (), ("pair", 0, 1))),
    ),
    "pruning": (
        ("redundant(rules)", "list", (TWICE,)),
        ("pruned(rules)", "tuple", (TWICE,)),
        ("grounds_for(rules)", "tuple", (TWICE,)),
        ("accepts_dropped(rules, grounds)", "bool", (TWICE, ((0, 1),)), (TWICE, ((1, 0),))),
        ("kept_rules(rules, grounds)", "tuple", (TWICE, ((0, 1),))),
    ),
    "joining": (
        ("joined(first, second)", "tuple", (TWICE, RULES)),
        ("untouched(order, rules)", "tuple", (ORDER, TWICE)),
        ("turned_back(order, rules)", "tuple None", (ORDER, TWICE), (ORDER, RULES)),
        ("accepts_back(order, rules, back)", "bool", (ORDER, (), ()), (ORDER, RULES, ())),
    ),
    "words": (
        ("is_word(order, value)", "bool", (ORDER, ("a", "a")), (ORDER, ("z",))),
        ("weights(order, letter)", "tuple", (ORDER, "b")),
        ("key(order, word, level)", "tuple", (ORDER, ("c", "b"), 3)),
        ("compare(order, first, second, level)", "int", (ORDER, ("b", "a"), ("a", "b"), 1), (ORDER, ("b",), ("a",), 3)),
    ),
    "sorting": (
        ("is_words(order, value)", "bool", (ORDER, WORDS), (ORDER, ("a",))),
        ("are_sorted(order, words, level)", "bool", (ORDER, SORTED, 1), (ORDER, WORDS, 1)),
        ("sorted_words(order, words, level)", "tuple", (ORDER, WORDS, 2)),
        ("equal_rows(order, words, level)", "list", (ORDER, SORTED, 1)),
        ("place_of_word(order, words, word, level)", "tuple", (ORDER, SORTED, ("b",), 1)),
    ),
    "telling": (
        ("compare_alike(first, second, level)", "bool", (ORDER, ORDER, 3), (ORDER, OTHER, 3)),
        ("telling_words(first, second, level)", "tuple None", (ORDER, OTHER, 3), (ORDER, ORDER, 3)),
        ("shows_unlike(first, second, level, value)", "bool", (ORDER, OTHER, 3, WORDS[:2]),
         (ORDER, ORDER, 3, WORDS[:2])),
    ),
    "effects": (
        ("changed_pairs(order, rules, words, level)", "list", (ORDER, (MOVING,), WORDS, 1)),
        ("moved_in(order, rules)", "tuple", (ORDER, (MOVING,))),
    ),
    "staying": (
        ("staying(order, rules, words, level)", "tuple", (ORDER, (MOVING,), WORDS, 1)),
        ("cover_for(order, rules, words, level)", "tuple", (ORDER, (MOVING,), WORDS, 1)),
        ("accepts_staying(order, rules, words, level, kept, cover)", "bool", (ORDER, (), ((),), 1, (0,), ((0,),)),
         (ORDER, (MOVING,), WORDS, 1, (), ())),
    ),
    "merging": (
        ("conflicts(one, other)", "list", ((RULE,), (AGAINST,))),
        ("merged(one, other)", "tuple None", (RULES, ()), ((RULE,), (AGAINST,))),
        ("merged_all(lists)", "tuple None", ([RULES, (), ()],), ([(RULE,), (AGAINST,)],)),
        ("count_interleavings(one, other)", "int", (RULES, TWICE)),
        ("interleaved(one, other, marks)", "tuple", (RULES, TWICE, (0, 1, 0, 1, 0))),
        ("unaffected(one, other)", "tuple", (RULES, TWICE)),
        ("first_conflict(one, other)", "tuple None", ((RULE,), (AGAINST,)), (RULES, ())),
        ("shows_conflict(one, other, pair, order)", "bool", ((RULE,), (AGAINST,), (0, 0), ORDER),
         ((RULE,), (AGAINST,), (0, 0), ((), ()))),
    ),
    "paths": (
        ("is_path(value)", "bool", ((ORDER, OTHER),), (ORDER,)),
        ("length(orders)", "int", ((ORDER, OTHER),)),
        ("direct(orders)", "int", ((ORDER, OTHER),)),
        ("is_shortest(orders)", "bool", ((ORDER, OTHER),), ((ORDER, OTHER, ORDER),)),
        ("farthest(orders)", "int", ((ORDER, OTHER),)),
        ("joined_rules(orders)", "tuple", ((ORDER, OTHER),)),
        ("kept_along(orders)", "tuple", ((ORDER, OTHER),)),
        ("lies_between(middle, first, second)", "bool", (ORDER, ORDER, OTHER), (OTHER, ORDER, ORDER)),
    ),
    "steps": (
        ("is_one_rule_away(first, second)", "bool", (ORDER, (("a", "b", "c"), (2, 2))), (ORDER, OTHER)),
        ("way(first, second)", "tuple", (ORDER, OTHER)),
        ("is_shortest_row(first, second, row, levels)", "bool", (ORDER, ORDER, (ORDER,), (1, 2, 3)),
         (ORDER, OTHER, (), LEVELS)),
    ),
    "scanning": (
        ("scan(text)", "list", ("& a < b",), ("",)),
    ),
    "reading": (
        ("next_tokens(text, kind)", "list", ("a", "order"), ("& [", "rules")),
        ("read_order(text)", "tuple", ("a < b << c",), ("",)),
        ("read_rules(text)", "tuple", ("& a < b << c",), ("",)),
    ),
    "writing": (
        ("order_text(order)", "str", (ORDER,), (((), ()),)),
        ("rules_text(rules)", "str", (RULES,), ((),)),
    ),
    "journals": (
        ("replayed(order, journal)", "Workshop", (ORDER, (("rule", RULE), ("reset",)))),
        ("are_right(order, records)", "bool", (ORDER, ()), (ORDER, (None,))),
    ),
}
METHODS = (
    ("do(command)", "int", (("rule", MOVING),), (("reset",),)),
    ("undo()", "tuple None", ()),
    ("initial()", "tuple", ()),
    ("current()", "tuple", ()),
    ("distance()", "int", ()),
    ("shortest()", "tuple", ()),
    ("kept()", "tuple", ()),
    ("compare(first, second, level)", "int", (("a",), ("b",), 1), ((), (), 1)),
    ("journal()", "tuple", ()),
    ("records()", "tuple", ()),
)
ERRORS = {"RulesError": None, "BadValue": ("name",), "NotApplicable": ("index", "why"), "TooLarge": ("what",),
          "TextError": ("column", "words")}


def module_of(name):
    return importlib.import_module(f"fewestrules.{name}")


def functions():
    """Each function of the interface, with the kinds of what it returns and its calls."""
    for module, rows in INTERFACE.items():
        for head, kinds, *calls in rows:
            yield getattr(module_of(module), head.split("(")[0]), kinds, calls


def kind_of(value):
    return "None" if value is None else type(value).__name__


def is_plain(value, top=True):
    """True if the value is made as point 3 says; lists contain tuples and plain values only."""
    if isinstance(value, tuple) or isinstance(value, list) and top:
        return type(value) in (tuple, list) and all(is_plain(item, False) for item in value)
    return value is None or type(value) in (int, str, bool)


def holds_no_truth(value):
    """True if True and False stand nowhere within the value."""
    if isinstance(value, (tuple, list)):
        return all(holds_no_truth(item) for item in value)
    return not isinstance(value, bool)


class Names(unittest.TestCase):
    def test_functions_with_their_parameters(self):
        for module, rows in INTERFACE.items():
            for head, *_ in rows:
                name, parameters = head[:-1].split("(")
                function = vars(module_of(module))[name]
                self.assertTrue(inspect.isfunction(function), head)
                self.assertEqual(function.__module__, f"fewestrules.{module}", head)
                self.assertEqual(", ".join(inspect.signature(function).parameters), parameters)

    def test_the_workshop(self):
        self.assertEqual(Workshop.__module__, "fewestrules.workshop")
        self.assertEqual(list(inspect.signature(Workshop).parameters), ["order"])
        for head, *_ in METHODS:
            name, parameters = head[:-1].split("(")
            method = vars(Workshop)[name]
            self.assertTrue(inspect.isfunction(method), head)
            self.assertEqual(list(inspect.signature(method).parameters)[1:], [x for x in parameters.split(", ") if x])

    def test_the_errors(self):
        errors = module_of("errors")
        for name, attributes in ERRORS.items():
            kind = vars(errors)[name]
            self.assertEqual(kind.__module__, "fewestrules.errors")
            self.assertEqual(kind.__bases__, (ValueError,) if attributes is None else (errors.RulesError,))
            if attributes is not None:
                self.assertEqual(tuple(inspect.signature(kind).parameters), attributes)

    def test_each_file_of_the_interface(self):
        files = {path.stem for path in PACKAGE.glob("*.py")} - {"__init__"}
        self.assertEqual(files, set(INTERFACE) | {"errors", "workshop"})


class Values(unittest.TestCase):
    def test_kinds(self):
        for function, kinds, calls in functions():
            found = [function(*copy.deepcopy(call)) for call in calls]
            for value in found:
                self.assertIn(kind_of(value), kinds.split(), function)
                if kinds == "Workshop":
                    continue
                self.assertTrue(is_plain(value), function)
                self.assertTrue(kinds == "bool" or holds_no_truth(value), function)
            if kinds == "bool":
                # The calls of each judge have both answers.
                self.assertEqual({str(value) for value in found}, {"True", "False"}, function)
            elif "None" in kinds:
                self.assertEqual({kind_of(value) for value in found}, set(kinds.split()), function)

    def test_kinds_of_the_workshop(self):
        for head, kinds, *calls in METHODS:
            for call in calls:
                for done in (0, 1, 2):
                    workshop = Workshop(ORDER)
                    for command in (("rule", MOVING), ("rules", RULES))[:done]:
                        workshop.do(command)
                    value = getattr(workshop, head.split("(")[0])(*call)
                    self.assertIn(kind_of(value), kinds.split(), head)
                    self.assertTrue(is_plain(value) and holds_no_truth(value), head)


class Repeated(unittest.TestCase):
    def told(self, value):
        return repr((value.current(), value.records())) if isinstance(value, Workshop) else repr(value)

    def test_equal_arguments_give_equal_results(self):
        for function, _, calls in functions():
            for call in calls:
                wanted = self.told(function(*copy.deepcopy(call)))
                for _ in range(2):
                    same(self, self.told(function(*copy.deepcopy(call))), wanted)

    def test_arguments_are_not_modified(self):
        for function, _, calls in functions():
            for call in calls:
                given = copy.deepcopy(call)
                function(*given)
                same(self, given, call)

    def test_returned_lists_are_not_used_again(self):
        many = 0
        for function, kinds, calls in functions():
            for call in calls if kinds == "list" else ():
                found = function(*call)
                wanted = repr(found)
                found.append(found)
                found[0] = None
                found.reverse()
                same(self, repr(function(*call)), wanted)
                many += 1
        self.assertGreaterEqual(many, 10)

    def test_an_object_copies_what_it_is_given(self):
        lists = [RULES, ()]
        found = module_of("merging").merged_all(lists)
        lists.clear()
        same(self, found, RULES)


class Whole(unittest.TestCase):
    """Answers that judges accept say what a search would find, wherever they come from."""

    def test_answers_rows_and_records_of_one_change(self):
        for first, second in alike_pairs(310, 36):
            rules, levels = answer_for(first, second)
            same(self, is_fewest(first, second, rules, levels), True)
            same(self, is_shortest_row(first, second, way(first, second), levels), True)
            workshop = Workshop(first)
            workshop.do(("rules", rules))
            same(self, workshop.records(), ((("rules", rules), rules, levels),))
            same(self, are_right(first, workshop.records()), True)
            same(self, workshop.kept(), reckoned_longest(first, second)[0])

    def test_what_a_judge_accepts_is_so(self):
        # All rule lists of up to two rules of a small order, each with all levels that could go with it.
        letters = ("a", "b", "c")
        chance = random.Random(311)
        order = (("b", "a", "c"), (1, 2))
        steps = steps_from(order, letters)
        levels = [(x, y, z) for x in (1, 2, 3) for y in (1, 2, 3) for z in (1, 2, 3)]
        rules = [(side, anchor, strength, letter) for side in ("after", "before") for anchor in letters
                 for strength in (1, 2, 3) for letter in letters if anchor != letter]
        lists = [()] + [(rule,) for rule in rules] + [tuple(chance.sample(rules, 2)) for _ in range(60)]
        accepted = 0
        for given in lists:
            result = led(order, given)
            for told in levels:
                if is_fewest(order, result, given, told):
                    accepted += 1
                    same(self, len(given), steps[result])
        self.assertGreater(accepted, 50)

    def test_words_that_stay_under_the_fewest_rules(self):
        for order, rules, words, level in some_changes(312, 40):
            kept, cover = staying(order, rules, words, level), cover_for(order, rules, words, level)
            same(self, accepts_staying(order, rules, words, level, kept, cover), True)
